package bidi_test

import (
	"math/rand"
	"slices"
	"testing"

	"calamus/bidi"
	"calamus/embed"
	"calamus/ucd"
)

// P12.3: what stands in an isolate changes no level outside of it.
func TestIsolatesIsolate(t *testing.T) {
	r := rand.New(rand.NewSource(123))
	for i := range 20000 {
		// 40 controls go no deeper than 80, so that the initiator is not overflown.
		l := anyText(r, 40, everyKind)
		at := r.Intn(len(l) + 1)
		ahead := append(slices.Clone(l[:at]), text("LRI RLI FSI")[r.Intn(3)])
		behind := append(text("PDI"), l[at:]...)
		one, other := closedText(r, 3), closedText(r, 3)
		if i%20 == 0 {
			one = append(one, times(130, "RLE")...)
			other = slices.Concat(times(70, "LRI ("), other, times(70, ") PDI"))
		}
		base := uint8(r.Intn(3))
		levels, paragraph := levelsOf(t, slices.Concat(ahead, one, behind), base)
		others, p := levelsOf(t, slices.Concat(ahead, other, behind), base)
		levels = slices.Delete(levels, len(ahead), len(ahead)+len(one))
		others = slices.Delete(others, len(ahead), len(ahead)+len(other))
		if paragraph != p || !slices.Equal(levels, others) {
			t.Fatalf("%+q, with %+q or %+q, %+q, %d:\n%d %d\n%d %d", ahead, one, other, behind, base, levels, paragraph, others, p)
		}
	}
}

// P12.3: characters of the class BN change no other one's level.
func TestBoundaryNeutrals(t *testing.T) {
	someTexts(133, 20000, func(r *rand.Rand, l []rune) {
		l = slices.DeleteFunc(slices.Clone(l), func(c rune) bool { return slices.Contains(kinds["BN"], c) })
		var more []rune
		var kept []int
		for _, c := range l {
			more = append(more, anyText(r, 2*r.Intn(2), kinds["BN"])...)
			kept = append(kept, len(more))
			more = append(more, c)
		}
		more = append(more, anyText(r, 2, kinds["BN"])...)
		base := uint8(r.Intn(3))
		want, paragraph := levelsOf(t, l, base)
		levels, p := levelsOf(t, more, base)
		for i, at := range kept {
			if levels[at] != want[i] || p != paragraph {
				t.Fatalf("%+q, %+q, %d: %d, want %d", l, more, base, levels, want)
			}
		}
	})
}

// P12.3: no level is above 126, or below the paragraph's.
func TestLevelsWithin(t *testing.T) {
	greatest := uint8(0)
	someTexts(143, 10000, func(_ *rand.Rand, l []rune) {
		for base := range uint8(3) {
			levels, paragraph := levelsOf(t, l, base)
			for _, level := range levels {
				greatest = max(greatest, level)
				if level < paragraph || level > 126 || paragraph > 1 {
					t.Fatalf("%+q, %d: %d %d", l, base, levels, paragraph)
				}
			}
		}
	})
	if greatest != 126 {
		t.Errorf("the greatest one is %d", greatest)
	}
	for _, x := range []struct {
		what string
		l    []rune
		want uint8
	}{
		{"an L at 125", append(times(63, "RLE"), text("L")...), 126},
		{"an EN at 124", append(times(62, "LRI"), text("R EN")...), 126},
		{"an R at 124", append(times(62, "LRE"), text("R")...), 125},
		{"an AN at 125", append(times(70, "RLI"), text("AN")...), 126},
		{"an overridden L at 125", append(times(80, "RLO"), text("L")...), 125},
	} {
		if levels, _ := levelsOf(t, x.l, 0); levels[len(levels)-1] != x.want {
			t.Errorf("%s: %d, want %d", x.what, levels[len(levels)-1], x.want)
		}
	}
}

// nest tells controls that go some way deep, an initiator behind them, and the
// level of its isolate, if this text stands in it.
func nest(r *rand.Rand, base uint8, inner []rune) ([]rune, uint8) {
	var l []rune
	level := base
	up := func(right bool) {
		if level++; level%2 == 1 != right {
			level++
		}
	}
	for range r.Intn(30) {
		n := r.Intn(6)
		l = append(l, text("LRE RLE LRO RLO LRI RLI")[n])
		up(n%2 == 1)
		l = append(l, anyText(r, 2, text("L R EN ON ( ) NSM BN"))...)
	}
	n := r.Intn(3)
	right := n == 1 || n == 2 && embed.Base(ownClasses(inner)) == 1
	up(right)
	return append(l, text("LRI RLI FSI")[n]), level
}

// P12.4: within an isolate a text has the levels that it has by itself, as much
// greater as the isolate's level asks for.
func TestIsolatesWithin(t *testing.T) {
	r := rand.New(rand.NewSource(124))
	odd := 0
	for range 20000 {
		inner, base := closedText(r, 3), uint8(r.Intn(2))
		ahead, isolate := nest(r, base, inner)
		all := slices.Concat(ahead, inner, text("PDI"), anyText(r, 20, everyKind))
		levels, _ := levelsOf(t, all, base)
		alone, _ := levelsOf(t, inner, isolate%2)
		odd += int(isolate % 2)
		for at, level := range alone {
			if got := levels[len(ahead)+at]; !isRemoved(inner[at]) && got != level+isolate-isolate%2 {
				t.Fatalf("%+q in %+q, at %d: %d, but %d by itself, the isolate's is %d", inner, all, at, got, level, isolate)
			}
		}
	}
	if odd < 5000 || odd > 15000 {
		t.Errorf("%d isolates are odd", odd)
	}
}

// bracketPairs tells brackets, each opening one with its closing one.
func bracketPairs() [][2]rune {
	return [][2]rune{{'(', ')'}, {'[', ']'}, {'{', '}'}, {0x2045, 0x2046}, {0x2308, 0x2309}, {0x2329, 0x232a}, {0x27e8, 0x27e9}, {0x300a, 0x300b}, {0x3010, 0x3011}}
}

// otherwise tells each character as another one of its class; brackets of a kind
// as brackets of one other kind.
func otherwise(r *rand.Rand, l []rune) []rune {
	pairs := bracketPairs()
	brackets := map[rune]rune{}
	for i, j := range r.Perm(len(pairs)) {
		for side := range 2 {
			brackets[pairs[i][side]] = pairs[j][side]
		}
	}
	var other []rune
	for _, c := range l {
		of := kinds[classNames[ucd.Class(c)]]
		if as, ok := brackets[c]; ok {
			of = []rune{as}
		}
		other = append(other, of[r.Intn(len(of))])
	}
	return other
}

// P12.5: levels hang on the classes, and on which characters are brackets, alone.
func TestLevelsHangOnClasses(t *testing.T) {
	of := text("L R AL EN ES ET AN CS NSM BN B S WS ON LRE RLE LRO RLO PDF LRI RLI FSI PDI ( ) [ ] { } \u2329 \u232a")
	r := rand.New(rand.NewSource(125))
	for range 20000 {
		l := anyText(r, 30, of)
		if r.Intn(3) == 0 {
			l = anyText(r, 30, text("L R EN ( ) [ ] NSM"))
		}
		other, base := otherwise(r, l), uint8(r.Intn(3))
		levels, paragraph := levelsOf(t, l, base)
		others, p := levelsOf(t, other, base)
		if paragraph != p || !slices.Equal(levels, others) || bidi.Plain(l) != bidi.Plain(other) {
			t.Fatalf("%+q, %+q, %d: %d %d, %d %d", l, other, base, levels, paragraph, others, p)
		}
	}
}

// P12.5: one that is a bracket has other levels than one of its class that is none.
func TestLevelsHangOnBrackets(t *testing.T) {
	for _, p := range bracketPairs() {
		levels, _ := levelsOf(t, []rune{'a', p[0], 'b', p[1], 0x5d0}, 1)
		if !slices.Equal(levels, numbers("2 2 2 2 1")) {
			t.Errorf("%c %c: %d", p[0], p[1], levels)
		}
	}
	for _, c := range kinds["ON"] {
		levels, _ := levelsOf(t, []rune{'a', c, 'b', c, 0x5d0}, 1)
		if !slices.Equal(levels, numbers("2 2 2 1 1")) {
			t.Errorf("%c: %d", c, levels)
		}
	}
}
