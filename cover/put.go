package cover

import (
	"strings"

	"calamus/api"
	"calamus/bin"
)

// PutCoverage tells the bytes of a coverage of the format 1.
func PutCoverage(l []uint16) ([]byte, api.Errno) {
	words := []int64{1, int64(len(l))}
	end := -1
	if !countable(len(l)) {
		goto wrong
	}
	for x := range listed(l) {
		if x.first <= end {
			goto wrong
		}
		end = x.last
		words = append(words, int64(x.first))
	}
	return put(words), api.OK
wrong:
	return nil, api.ErrArg
}

// PutClasses tells the bytes of classes of the format 2.
func PutClasses(l []uint8) ([]byte, api.Errno) {
	words := []int64{2, 0}
	if len(l) > api.MaxGlyphs {
		goto wrong
	}
	for x := range rows(l) {
		if x.word > mostClass {
			goto wrong
		}
		words = append(words, int64(x.first), int64(x.last), int64(x.word))
		words[1]++
	}
	return put(words), api.OK
wrong:
	return nil, api.ErrArg
}

// put tells the bytes of numbers of two bytes each.
func put(words []int64) []byte {
	b, _ := bin.Put(words, strings.Repeat("H", len(words)))
	return b
}
