package embed_test

import (
	"math/rand"
	"slices"
	"testing"

	"calamus/api"
	"calamus/embed"
)

// closedRow tells a row without a B, whose initiators and PDIs are each other's.
func closedRow(r *rand.Rand, depth int) []api.Class {
	plain := row("L R AL EN ES ET AN CS NSM BN S WS ON LRE RLE LRO RLO PDF PDF PDF")
	l := []api.Class{}
	for range r.Intn(8) {
		if r.Intn(4) == 0 && depth > 0 {
			l = append(l, api.LRI+api.Class(r.Intn(3)))
			l = append(l, closedRow(r, depth-1)...)
			l = append(l, api.PDI)
			continue
		}
		l = append(l, plain[r.Intn(len(plain))])
	}
	if r.Intn(20) == 0 {
		l = append(l, times(130, "RLE")...)
	}
	return l
}

// P10.6: no level is above 125, or below the paragraph's.
func TestLevelsWithin(t *testing.T) {
	deepest := uint8(0)
	someRows(106, 10000, func(_ *rand.Rand, l []api.Class) {
		for base := range uint8(3) {
			levels, _, paragraph, _ := embed.Levels(l, base)
			for _, level := range levels {
				deepest = max(deepest, level)
				if level < paragraph || level > 125 {
					t.Fatalf("%d of %d: %d", l, base, levels)
				}
			}
		}
	})
	if deepest != 125 {
		t.Errorf("the deepest one is %d", deepest)
	}
}

// P10.6: what stands in an isolate changes nothing outside of it.
func TestIsolatesIsolate(t *testing.T) {
	someRows(116, 20000, func(r *rand.Rand, l []api.Class) {
		at := r.Intn(len(l) + 1)
		ahead := append(slices.Clone(l[:at]), api.LRI+api.Class(r.Intn(3)))
		behind := append(row("PDI"), l[at:]...)
		one, other := closedRow(r, 3), closedRow(r, 3)
		for base := range uint8(3) {
			levels, classes, paragraph, _ := embed.Levels(slices.Concat(ahead, one, behind), base)
			levels = slices.Delete(levels, len(ahead), len(ahead)+len(one))
			classes = slices.Delete(classes, len(ahead), len(ahead)+len(one))
			others, told, p, _ := embed.Levels(slices.Concat(ahead, other, behind), base)
			others = slices.Delete(others, len(ahead), len(ahead)+len(other))
			told = slices.Delete(told, len(ahead), len(ahead)+len(other))
			if paragraph != p || !slices.Equal(levels, others) || !slices.Equal(classes, told) {
				t.Fatalf("%d, with %d or %d, %d:\n%d %d %d\n%d %d %d", ahead, one, other, behind, levels, classes, paragraph, others, told, p)
			}
		}
	})
}

// P10.7: each place is in just one sequence, of whatever levels.
func TestEachPlaceOnce(t *testing.T) {
	someRows(107, 5000, func(r *rand.Rand, l []api.Class) {
		levels := make([]uint8, len(l))
		var want, got []int
		for at, c := range l {
			levels[at] = uint8(r.Intn(3))
			if !isRemoved(c) {
				want = append(want, at)
			}
		}
		all, _ := embed.Sequences(l, levels, uint8(r.Intn(3)))
		for i, s := range all {
			got = append(got, s.Places...)
			if !slices.IsSorted(s.Places) || i > 0 && s.Places[0] < all[i-1].Places[0] {
				t.Fatalf("%d, %d: %d", l, levels, all)
			}
		}
		if slices.Sort(got); !slices.Equal(got, want) {
			t.Fatalf("%d, %d: %d", l, levels, all)
		}
	})
}

// P10.7: of levels that Levels tells a sequence has one level, and places side
// by side that have one level are of one sequence, but where an isolate ends or
// begins.
func TestOneLevel(t *testing.T) {
	someRows(117, 5000, func(r *rand.Rand, l []api.Class) {
		levels, _, paragraph, _ := embed.Levels(l, uint8(r.Intn(3)))
		all, _ := embed.Sequences(l, levels, paragraph)
		of := make([]int, len(l))
		for i, s := range all {
			for _, at := range s.Places {
				of[at] = i
				if levels[at] != s.Level {
					t.Fatalf("%d, %d: %d", l, levels, s)
				}
			}
		}
		last := -1
		for at, c := range l {
			if isRemoved(c) {
				continue
			}
			if last >= 0 && levels[last] == levels[at] && of[last] != of[at] && !isInitiator(l[last]) && c != api.PDI {
				t.Fatalf("%d, %d, at %d and %d: %d", l, levels, last, at, all)
			}
			last = at
		}
	})
}
