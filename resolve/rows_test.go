package resolve_test

import (
	"math/rand"
	"slices"
	"strings"
	"testing"

	"calamus/api"
	"calamus/resolve"
	"calamus/ucd"
)

// row tells classes by their names.
func row(text string) []api.Class {
	names := strings.Fields("0 L R AL EN ES ET AN CS NSM BN B S WS ON LRE RLE LRO RLO PDF LRI RLI FSI PDI")
	var l []api.Class
	for _, name := range strings.Fields(text) {
		c := slices.Index(names, name)
		if c < 0 {
			panic("no class: " + name)
		}
		l = append(l, api.Class(c))
	}
	return l
}

// everyClass tells all classes, and some numbers that are none's.
func everyClass() []api.Class {
	l := []api.Class{0, 24, 255}
	for c := api.L; c <= api.PDI; c++ {
		l = append(l, c)
	}
	return l
}

// everyRow goes through all rows of n out of some.
func everyRow[T any](of []T, n int, each func(l []T)) {
	l := make([]T, n)
	var fill func(at int)
	fill = func(at int) {
		if at == n {
			each(l)
			return
		}
		for _, x := range of {
			l[at] = x
			fill(at + 1)
		}
	}
	fill(0)
}

// anyRow tells a row of up to that many, out of a few of some.
func anyRow[T any](r *rand.Rand, most int, of []T) []T {
	few := make([]T, 1+r.Intn(12))
	for i := range few {
		few[i] = of[r.Intn(len(of))]
	}
	l := make([]T, r.Intn(most+1))
	for i := range l {
		l[i] = few[r.Intn(len(few))]
	}
	return l
}

// classesOf tells the classes that characters have at first.
func classesOf(l []rune) []api.Class {
	first := make([]api.Class, len(l))
	for at, c := range l {
		first[at] = ucd.Class(c)
	}
	return first
}

// edges tells what may be handed in as sos or eos: others count as L.
func edges() []api.Class { return row("L R AL ON 0") }

// sameWeak holds Weak against what it should tell.
func sameWeak(t *testing.T, l []api.Class, sos api.Class) {
	t.Helper()
	if got, want := resolve.Weak(l, sos), weakByWords(l, sos); !slices.Equal(got, want) {
		t.Fatalf("Weak(%d, %d): %d, want %d", l, sos, got, want)
	}
}

// sameBrackets holds Brackets against what it should tell.
func sameBrackets(t *testing.T, l []rune, now []api.Class) {
	t.Helper()
	if got, want := resolve.Brackets(l, now), bracketsByWords(l, now); !slices.Equal(got, want) {
		t.Fatalf("Brackets(%q, %d): %d, want %d", l, now, got, want)
	}
}

// samePairs holds Pairs against what it should tell.
func samePairs(t *testing.T, l []rune, first, now []api.Class, level uint8, sos api.Class) {
	t.Helper()
	got, e := resolve.Pairs(l, first, now, level, sos)
	if want := pairsByWords(l, first, now, level, sos); e != api.OK || !slices.Equal(got, want) {
		t.Fatalf("Pairs(%q, %d, %d, %d, %d): %d %d, want %d", l, first, now, level, sos, got, e, want)
	}
}

// sameNeutral holds Neutral, and Levels behind it, against what they should tell.
func sameNeutral(t *testing.T, l []api.Class, level uint8, sos, eos api.Class) {
	t.Helper()
	got, want := resolve.Neutral(l, level, sos, eos), neutralByWords(l, level, sos, eos)
	if !slices.Equal(got, want) {
		t.Fatalf("Neutral(%d, %d, %d, %d): %d, want %d", l, level, sos, eos, got, want)
	}
	levels, wanted := resolve.Levels(got, level), levelsByWords(want, level)
	if !slices.Equal(levels, wanted) {
		t.Fatalf("Levels(%d, %d): %d, want %d", got, level, levels, wanted)
	}
}
