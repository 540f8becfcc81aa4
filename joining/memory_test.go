package joining_test

import (
	"math/rand"
	"slices"
	"sync"
	"testing"

	"calamus/joining"
)

// P15.3: what is handed in is only read, what lies behind it included, and not
// kept; what is answered is new memory.
func TestMemory(t *testing.T) {
	someTexts(153, 5000, 30, func(_ *rand.Rand, l []rune) {
		under := append(slices.Clone(l), []rune("\u0628\u064e\u0628")...)
		before := slices.Clone(under)
		handed, want := under[:len(l)], formsByWords(l)
		forms, other := joining.Forms(handed), joining.Forms(handed)
		if !slices.Equal(forms, want) {
			t.Fatalf("%X: %s, want %s", l, letters(forms), letters(want))
		}
		spoil(forms, 199)
		if !slices.Equal(under, before) {
			t.Fatalf("what is handed in is changed: %X, was %X", under, before)
		}
		if !slices.Equal(joining.Forms(handed), want) {
			t.Fatalf("%X: an answer hangs on another one", l)
		}
		spoil(under, 'a')
		if !slices.Equal(other, want) {
			t.Fatalf("%X: what is answered is no new memory, or what is handed in is kept", l)
		}
	})
}

// spoil writes over a list, what lies behind its length included.
func spoil[T any](l []T, with T) {
	l = l[:cap(l)]
	for i := range l {
		l[i] = with
	}
}

// P15.3: many that ask of one text at the same time are told the same.
func TestAskedAtOnce(t *testing.T) {
	l := slices.Repeat([]rune("\u0628\u064e\u0628\u0627\u0640a"), 200)
	want := formsByWords(l)
	var wait sync.WaitGroup
	for range 16 {
		wait.Go(func() {
			if got := joining.Forms(l); !slices.Equal(got, want) {
				t.Errorf("%s, want %s", letters(got), letters(want))
			}
		})
	}
	wait.Wait()
}
