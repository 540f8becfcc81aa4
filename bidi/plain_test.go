package bidi_test

import (
	"math/rand"
	"slices"
	"testing"

	"calamus/api"
	"calamus/bidi"
	"calamus/ucd"
)

// P12.1: of each class by hand, alone and among others.
func TestPlainByHand(t *testing.T) {
	plain := map[string]bool{"L": true, "EN": true, "ES": true, "ET": true, "CS": true, "NSM": true, "BN": true, "S": true, "WS": true, "ON": true}
	for name, of := range kinds {
		for _, c := range of {
			for _, l := range [][]rune{{c}, {'a', c}, {c, 'a'}, {' ', '1', c, '!', ')'}} {
				if bidi.Plain(l) != plain[name] {
					t.Errorf("Plain(%+q), of %s: %t", l, name, !plain[name])
				}
			}
		}
	}
	for _, x := range []struct {
		l    []rune
		want bool
	}{
		{nil, true}, {[]rune{}, true}, {[]rune("a1+ !"), true}, {[]rune("a\u2066"), false}, {[]rune("([{\u2329\u3009}])"), true},
		{[]rune("\u05d0"), false}, {[]rune("a\n"), false}, {[]rune("a\u0661"), false}, {[]rune{-1, 0x110000}, true},
		{times(1<<17, "L"), true}, {append(times(1<<17, "L"), 0x5d0), false}, {append(text("PDF"), times(1<<17, "L")...), false},
	} {
		if got := bidi.Plain(x.l); got != x.want {
			t.Errorf("Plain of %d characters: %t", len(x.l), got)
		}
	}
}

// P12.1: of each character, as its class is.
func TestPlainOfAll(t *testing.T) {
	for c := rune(-3); c < 0x110003; c++ {
		l := [1]rune{c}
		if got := bidi.Plain(l[:]); got != (has(ucd.Class(c), api.L, api.BN, api.S, api.WS, api.ON, api.NSM) || ucd.Class(c) >= api.EN && ucd.Class(c) <= api.CS && ucd.Class(c) != api.AN) {
			t.Fatalf("Plain of %x: %t", c, got)
		}
	}
	someTexts(141, 20000, func(_ *rand.Rand, l []rune) {
		if bidi.Plain(l) != plainByWords(l) {
			t.Fatalf("Plain(%+q)", l)
		}
	})
}

// P12.1: all levels of a plain text are 0, of base 0 and 2.
func TestPlainFollows(t *testing.T) {
	plain := text("L EN ES ET CS NSM BN S WS ON ( ) [ ] \u2329 \u3009")
	each := func(l []rune) {
		for _, base := range []uint8{0, 2} {
			levels, paragraph := levelsOf(t, l, base)
			if !bidi.Plain(l) || paragraph != 0 || slices.ContainsFunc(levels, func(level uint8) bool { return level != 0 }) {
				t.Fatalf("%+q, %d: %d %d", l, base, levels, paragraph)
			}
		}
	}
	for n := range 4 {
		everyText(plain, n, each)
	}
	r := rand.New(rand.NewSource(151))
	for range 5000 {
		each(anyText(r, 60, plain))
	}
}
