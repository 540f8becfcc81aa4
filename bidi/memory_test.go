package bidi_test

import (
	"math/rand"
	"slices"
	"testing"

	"calamus/api"
	"calamus/bidi"
)

// withBehind tells a copy of a text, and of it together with more behind it.
func withBehind(l []rune) (handed, under []rune) {
	under = append(slices.Clone(l), text("R RLI PDI B FSI ( )")...)
	return under[:len(l)], under
}

// spoil writes over levels, what lies behind their length included.
func spoil(levels []uint8) {
	levels = levels[:cap(levels)]
	for i := range levels {
		levels[i] = 199
	}
}

// P12.2: a text is only read, what lies behind it included, and not kept; what is
// answered is new memory.
func TestMemory(t *testing.T) {
	someTexts(122, 5000, func(r *rand.Rand, l []rune) {
		handed, under := withBehind(l)
		before := slices.Clone(under)
		base := uint8(r.Intn(3))
		one, _ := levelsOf(t, handed, base)
		other, _ := levelsOf(t, handed, base)
		plain := bidi.Plain(handed)
		if !slices.Equal(under, before) {
			t.Fatalf("what is handed in is changed: %+q, was %+q", under, before)
		}
		want, _ := levelsByWords(l, base)
		if !slices.Equal(one, want) {
			t.Fatalf("%+q: %d, want %d", l, one, want)
		}
		spoil(one)
		if !slices.Equal(under, before) || !slices.Equal(other, want) {
			t.Fatalf("%+q: what is answered is no new memory", l)
		}
		if again, _ := levelsOf(t, handed, base); !slices.Equal(again, want) {
			t.Fatalf("%+q: an answer hangs on another one: %d, want %d", l, again, want)
		}
		for i := range under {
			under[i] = '?'
		}
		if !slices.Equal(other, want) || plain != plainByWords(l) {
			t.Fatalf("%+q: what is handed in is kept", l)
		}
	})
}

// P12.2: what is wrong is only read, too.
func TestWrongMemory(t *testing.T) {
	handed, under := withBehind(text("R ( L )"))
	before := slices.Clone(under)
	if _, _, e := bidi.Levels(handed, 3); e != api.ErrArg || !slices.Equal(under, before) {
		t.Errorf("%d, of %+q", e, under)
	}
	handed, under = withBehind(times(65537, "R"))
	before = slices.Clone(under)
	if _, _, e := bidi.Levels(handed, 0); e != api.ErrLimit || !slices.Equal(under, before) {
		t.Errorf("%d", e)
	}
}
