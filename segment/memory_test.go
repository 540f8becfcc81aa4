package segment_test

import (
	"slices"
	"testing"

	"calamus/segment"
)

// P13.2: a text is only read, nothing behind its length is, and it is not kept;
// what is answered is new memory.
func TestMemory(t *testing.T) {
	someTexts(137, 5000, func(l []rune) {
		under := append(slices.Clone(l), text("CM ZWJ LF NU QUclose RI SP ID")...)
		handed, before := under[:len(l)], slices.Clone(under)
		want := breaksByWords(slices.Clone(l), func(string) {})
		one, other := segment.Breaks(handed), segment.Breaks(handed)
		if !slices.Equal(under, before) {
			t.Fatalf("what is handed in is changed: %X, was %X", under, before)
		}
		if !slices.Equal(one, want) {
			t.Fatalf("%X: %d, want %d", l, one, want)
		}
		one = one[:cap(one)]
		for i := range one {
			one[i] = 199
		}
		if !slices.Equal(under, before) || !slices.Equal(other, want) {
			t.Fatalf("%X: what is answered is no new memory", l)
		}
		if again := segment.Breaks(handed); !slices.Equal(again, want) {
			t.Fatalf("%X: an answer hangs on another one: %d, want %d", l, again, want)
		}
		for i := range under {
			under[i] = '\n'
		}
		if !slices.Equal(other, want) {
			t.Fatalf("%X: what is handed in is kept", l)
		}
	})
}
