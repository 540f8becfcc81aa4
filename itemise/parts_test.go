package itemise

import (
	"slices"
	"testing"
)

// P14.1: parts end with each separator; they may be gone over again, and left early.
func TestParts(t *testing.T) {
	for text, want := range map[string][]int{
		"": nil, "a": {0, 1}, "\n": {0, 1}, "ab": {0, 2}, "a\n": {0, 2}, "a\nb": {0, 2, 2, 3},
		"\n\n": {0, 1, 1, 2}, "\r\n": {0, 1, 1, 2}, "ab\u2029c\u2028d\x1c": {0, 3, 3, 7},
	} {
		all := parts([]rune(text))
		for range 2 {
			var got []int
			for from, to := range all {
				got = append(got, from, to)
			}
			if !slices.Equal(got, want) {
				t.Errorf("%+q: %d, want %d", text, got, want)
			}
		}
		for range all {
			break
		}
	}
}
