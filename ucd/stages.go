package ucd

import (
	"slices"
	"unicode/utf8"
)

// blockSize is how many characters a block has.
const blockSize = 256

// block is what is known of characters that stand side by side.
type block [blockSize]uint8

// stages is a table in two stages: which block a character is in, and what
// the blocks say. Blocks that say the same are one.
type stages struct {
	others uint8
	first  []uint16
	second []block
}

// at tells what is known of a character.
func (s stages) at(r rune) uint8 {
	if r < 0 || r > utf8.MaxRune {
		return s.others
	}
	return s.second[s.first[r/blockSize]][r%blockSize]
}

// laid makes the table of what is known of each character; runes that are none
// are all alike.
func laid(known func(r rune) uint8) stages {
	s := stages{others: known(-1)}
	var b block
	for from := rune(0); from <= utf8.MaxRune; from += blockSize {
		for i := range b {
			b[i] = known(from + rune(i))
		}
		place := slices.Index(s.second, b)
		if place < 0 {
			place = len(s.second)
			s.second = append(s.second, b)
		}
		s.first = append(s.first, uint16(place))
	}
	return s
}
