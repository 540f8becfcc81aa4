package sfnt

import (
	"calamus/api"
	"calamus/bin"
)

// whole is the sum of all bytes of a font with a table head.
const whole = 2981146554

// joined tells the font of these tables.
func joined(tags []api.Tag, bodies [][]byte) []byte {
	require(len(tags) == len(bodies) && countable(len(tags)) && rising(tags), api.ErrArg)
	b := make([]byte, joinedSize(bodies))
	record, at := copy(b, opening(len(tags))), begin(len(tags))
	var last []byte
	for i, body := range bodies {
		record += copy(b[record:], tags[i][:])
		record += copy(b[record:], numbers("III", int(sum(tags[i], body)), at, len(body)))
		copy(b[at:], body)
		if isHead(tags[i]) && len(body) >= chosenEnd {
			last = b[at+chosen : at+chosenEnd]
		}
		at += filled(len(body))
	}
	clear(last)
	copy(last, numbers("I", int(whole-bin.Sum(b))))
	return b
}

// rising: does each name rise to the next one?
func rising(tags []api.Tag) bool {
	for i := 1; i < len(tags); i++ {
		if !before(tags[i-1], tags[i]) {
			return false
		}
	}
	return true
}

// joinedSize tells how many bytes the font of these bodies has, if that may be.
func joinedSize(bodies [][]byte) int {
	size := begin(len(bodies))
	for _, body := range bodies {
		size += filled(len(body))
		require(size <= api.MaxFont, api.ErrLimit)
	}
	return size
}

// filled tells a length up to the next multiple of four.
func filled(n int) int { return (n + unit - 1) / unit * unit }
