package ucd

import (
	"slices"
	"unicode/utf8"
)

// span is the characters from the first up to the last one, which is in it.
type span struct{ first, last rune }

// row is what is known of the characters of spans.
type row struct {
	value uint8
	spans []span
}

// blockSize is how many characters a block has.
const blockSize = 256

// block is what is known of characters that stand side by side.
type block [blockSize]uint8

// stages is a table in two stages: which block a character is in, and what
// the blocks say. Blocks that say the same are one.
type stages struct {
	others uint8
	first  []uint8
	second []block
}

// at tells what is known of a character.
func (s stages) at(r rune) uint8 {
	if r < 0 || r > utf8.MaxRune {
		return s.others
	}
	return s.second[s.first[r/blockSize]][r%blockSize]
}

// laid makes a table: of each character what the first row says that has it,
// and of all others what is said of those.
func laid(others uint8, rows []row) stages {
	values := slices.Repeat([]uint8{others}, utf8.MaxRune+1)
	for _, w := range slices.Backward(rows) { // what is written last is what counts
		for _, s := range w.spans {
			for r := s.first; r <= s.last; r++ {
				values[r] = w.value
			}
		}
	}
	return cut(others, values)
}

// cut makes a table of what is known of each character.
func cut(others uint8, values []uint8) stages {
	s := stages{others: others}
	places := map[block]uint8{}
	for values := range slices.Chunk(values, blockSize) {
		b := block(values)
		place, ok := places[b]
		if !ok {
			place = uint8(len(s.second))
			places[b] = place
			s.second = append(s.second, b)
		}
		s.first = append(s.first, place)
	}
	return s
}
