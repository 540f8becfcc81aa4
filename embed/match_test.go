package embed_test

import (
	"math/rand"
	"slices"
	"testing"

	"calamus/api"
	"calamus/embed"
)

// P10.1: which belong together, by hand.
func TestMatchByHand(t *testing.T) {
	for _, x := range []struct {
		l    string
		want []int
	}{
		{"", nil},
		{"L", []int{-1}},
		{"PDI", []int{-1}},
		{"LRI", []int{-1}},
		{"LRI PDI", []int{1, 0}},
		{"RLI PDI", []int{1, 0}},
		{"FSI PDI", []int{1, 0}},
		{"PDI RLI LRI PDI B PDI", []int{-1, -1, 3, 2, -1, -1}},
		{"LRI L RLI R FSI AL PDI PDI PDI PDI", []int{8, -1, 7, -1, 6, -1, 4, 2, 0, -1}},
		{"LRI PDI RLI PDI PDI FSI PDI", []int{1, 0, 3, 2, -1, 6, 5}},
		{"LRI RLI PDI L", []int{-1, 2, 1, -1}},
		{"LRI LRI B PDI LRI PDI", []int{-1, -1, -1, -1, 5, 4}},
		{"LRI B B PDI", []int{-1, -1, -1, -1}},
		{"LRI RLE PDI PDF PDI", []int{2, -1, 0, -1, -1}},
		{"LRE PDI LRO PDI RLE PDF PDI", []int{-1, -1, -1, -1, -1, -1, -1}},
		{"LRI S WS BN PDI", []int{4, -1, -1, -1, 0}},
	} {
		if pairs := embed.Match(row(x.l)); !slices.Equal(pairs, x.want) {
			t.Errorf("Match(%s): %d, want %d", x.l, pairs, x.want)
		}
	}
}

// P10.1: a paragraph's level, by hand.
func TestBaseByHand(t *testing.T) {
	for _, x := range []struct {
		l    string
		want uint8
	}{
		{"", 0}, {"L", 0}, {"R", 1}, {"AL", 1}, {"L R", 0}, {"R L", 1}, {"AL L", 1},
		{"ON AL", 1}, {"EN AN ES ET CS NSM BN S WS ON R", 1}, {"EN AN ES ET CS NSM BN S WS ON L R", 0},
		{"RLE L R", 0}, {"RLO RLE PDF L", 0}, {"LRE LRO R", 1}, {"PDF R", 1}, {"PDI R", 1},
		{"B R", 0}, {"ON B R L", 0}, {"R B L", 1},
		{"RLI R PDI L", 0}, {"LRI L PDI R", 1}, {"FSI L PDI AL", 1}, {"LRI L PDI", 0}, {"RLI R PDI", 0},
		{"LRI R", 0}, {"RLI R B R", 0}, {"LRI RLI PDI R", 0}, {"LRI L PDI PDI R", 1},
		{"LRI R RLI R PDI R PDI ON LRI PDI R", 1}, {"LRI R RLI R PDI R PDI ON LRI PDI L R", 0},
		{"FSI L PDI FSI PDI RLI R PDI EN AL", 1}, {"RLE LRI L PDF PDI R", 1},
	} {
		if base := embed.Base(row(x.l)); base != x.want {
			t.Errorf("Base(%s): %d, want %d", x.l, base, x.want)
		}
	}
}

// P10.1: every short row, of the classes that count, of all, and of what is none.
func TestMatchAndBaseEvery(t *testing.T) {
	each := func(l []api.Class) {
		if pairs, want := embed.Match(l), matchByWords(l); !slices.Equal(pairs, want) {
			t.Fatalf("Match(%d): %d, want %d", l, pairs, want)
		}
		if base, want := embed.Base(l), baseByWords(l); base != want {
			t.Fatalf("Base(%d): %d, want %d", l, base, want)
		}
	}
	for n := range 4 {
		everyRow(append(everyClass(), 0, 24, 36, 255), n, each)
	}
	for n := range 7 {
		everyRow(row("L R AL B RLI FSI PDI"), n, each)
	}
	for n := range 9 {
		everyRow(row("R B LRI PDI"), n, each)
	}
	someRows(101, 3000, func(r *rand.Rand, l []api.Class) {
		if r.Intn(4) == 0 && len(l) > 0 {
			l[r.Intn(len(l))] = []api.Class{0, 24, 200, 255}[r.Intn(4)]
		}
		each(l)
	})
}

// P10.1: rows longer than a paragraph, and deep ones.
func TestMatchAndBaseLong(t *testing.T) {
	const n = 1 << 18
	l := slices.Concat(times(n, "FSI"), row("R"), times(n, "PDI"), row("AL L"))
	pairs := embed.Match(l)
	for at := range n {
		if pairs[at] != 2*n-at || pairs[2*n-at] != at {
			t.Fatalf("%d: %d and %d", at, pairs[at], pairs[2*n-at])
		}
	}
	if pairs[n] != -1 || pairs[2*n+1] != -1 {
		t.Error("what is neither has one")
	}
	if embed.Base(l) != 1 || embed.Base(l[1:]) != 1 || embed.Base(l[:2*n+1]) != 0 || embed.Base(slices.Concat(row("RLI"), l)) != 0 {
		t.Error("the base of a deep row")
	}
}
