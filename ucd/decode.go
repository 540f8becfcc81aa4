package ucd

import (
	"unicode/utf8"

	"calamus/api"
)

// sound tells how many characters stand ahead of the first part that is none,
// but no more than one past the limit, and how many bytes those have.
func sound(b []byte) (count, place int) {
	for place < len(b) && count <= api.MaxText {
		r, width := utf8.DecodeRune(b[place:])
		if r == utf8.RuneError && width == 1 { // the character FFFD itself has 3 bytes
			break
		}
		count, place = count+1, place+width
	}
	return count, place
}
