package bidi_test

import (
	"fmt"
	"math/rand"
	"slices"
	"strings"
	"testing"

	"calamus/api"
	"calamus/bidi"
)

// kinds are characters of each class, by the classes' names; none of them is a
// bracket.
var kinds = map[string][]rune{
	"L":   {'a', 'Z', 0xe9, 0x416, 0x4e2d, 0x20000, -1, 0x7fffffff},
	"R":   {0x5d0, 0x5be, 0x200f, 0xfb1d, 0x1e900},
	"AL":  {0x627, 0x61b, 0x710, 0xfb50, 0x1ee00},
	"EN":  {'1', '9', 0xb2, 0x6f5, 0x2070},
	"ES":  {'+', '-', 0x207b, 0x2212, 0xfb29},
	"ET":  {'#', '%', 0xb0, 0x66a, 0x20ac},
	"AN":  {0x661, 0x600, 0x66b, 0x6dd},
	"CS":  {',', ':', 0xa0, 0x60c, 0x2044},
	"NSM": {0x301, 0x591, 0x64b, 0xfe0f, 0xe0100},
	"BN":  {0, 0xad, 0x200b, 0x2060, 0xfeff},
	"B":   {'\n', '\r', 0x1c, 0x85, 0x2029},
	"S":   {'\t', 0xb, 0x1f},
	"WS":  {' ', 0xc, 0x2003, 0x2028, 0x3000},
	"ON":  {'!', '<', 0xab, 0x2010, 0x2264, 0xfffd, 0x1f300},
	"LRE": {0x202a}, "RLE": {0x202b}, "LRO": {0x202d}, "RLO": {0x202e}, "PDF": {0x202c},
	"LRI": {0x2066}, "RLI": {0x2067}, "FSI": {0x2068}, "PDI": {0x2069},
}

// classNames are the classes' names, by their numbers.
var classNames = strings.Fields("0 L R AL EN ES ET AN CS NSM BN B S WS ON LRE RLE LRO RLO PDF LRI RLI FSI PDI")

// everyKind is a character of each class, and brackets.
var everyKind = text(strings.Join(classNames[1:], " ") + " ( ) [ ] \u2329 \u3009")

// text tells characters: of a class's name one of that class, of a character
// itself.
func text(words string) []rune {
	l := []rune{}
	for _, word := range strings.Fields(words) {
		if of, ok := kinds[word]; ok {
			l = append(l, of[0])
			continue
		}
		one := []rune(word)
		if len(one) != 1 {
			panic("no character: " + word)
		}
		l = append(l, one[0])
	}
	return l
}

// times tells characters, so many times.
func times(n int, words string) []rune { return slices.Repeat(text(words), n) }

// numbers tells levels, written behind one another.
func numbers(words string) []uint8 {
	l := []uint8{}
	for _, word := range strings.Fields(words) {
		var n uint8
		fmt.Sscan(word, &n)
		l = append(l, n)
	}
	return l
}

// everyText goes through all texts of n out of some characters.
func everyText(of []rune, n int, each func(l []rune)) {
	l := make([]rune, n)
	var fill func(at int)
	fill = func(at int) {
		if at == n {
			each(l)
			return
		}
		for _, c := range of {
			l[at] = c
			fill(at + 1)
		}
	}
	fill(0)
}

// anyText tells a text of up to that many, out of a few of some characters.
func anyText(r *rand.Rand, most int, of []rune) []rune {
	few := make([]rune, 1+r.Intn(12))
	for i := range few {
		few[i] = of[r.Intn(len(of))]
	}
	l := make([]rune, r.Intn(most+1))
	for i := range l {
		l[i] = few[r.Intn(len(few))]
	}
	return l
}

// deepText tells a text that goes as deep as may be, and deeper, and back.
func deepText(r *rand.Rand) []rune {
	begins, ends := text("LRE RLE LRO RLO LRI RLI FSI"), text("PDF PDI PDI")
	if r.Intn(2) == 0 {
		begins = begins[r.Intn(len(begins)):]
	}
	var l []rune
	for _, of := range [][]rune{begins, slices.Concat(begins, ends), ends} {
		for range 40 + r.Intn(120) {
			if r.Intn(3) == 0 {
				l = append(l, anyText(r, 3, everyKind[:14])...)
			}
			l = append(l, of[r.Intn(len(of))])
		}
	}
	return l
}

// closedText tells a text without a B, whose initiators and PDIs are each
// other's.
func closedText(r *rand.Rand, depth int) []rune {
	plain := text("L R AL EN EN ES ET AN CS NSM NSM BN S WS ON LRE RLE LRO RLO PDF PDF ( ) ( ) [ ]")
	var l []rune
	for range r.Intn(10) {
		if r.Intn(4) == 0 && depth > 0 {
			l = append(l, text("LRI RLI FSI")[r.Intn(3)])
			l = append(l, closedText(r, depth-1)...)
			l = append(l, text("PDI")...)
			continue
		}
		l = append(l, plain[r.Intn(len(plain))])
	}
	return l
}

// someTexts goes through texts of all classes, short, long and deep ones.
func someTexts(seed int64, n int, each func(r *rand.Rand, l []rune)) {
	r := rand.New(rand.NewSource(seed))
	for i := range n {
		switch i % 10 {
		case 0:
			each(r, deepText(r))
		case 1:
			each(r, anyText(r, 150, everyKind))
		case 2, 3, 4:
			each(r, anyText(r, 24, text("L R EN NSM ( ) [ ] RLE LRO PDF RLI PDI ON")))
		default:
			each(r, anyText(r, 14, everyKind))
		}
	}
}

// same holds Levels against what it should tell.
func same(t *testing.T, l []rune, base uint8) {
	t.Helper()
	levels, paragraph, e := bidi.Levels(l, base)
	want, p := levelsByWords(l, base)
	if e != api.OK || !slices.Equal(levels, want) || paragraph != p {
		t.Fatalf("Levels(%+q, %d): %d %d %d,\nwant %d %d", l, base, levels, paragraph, e, want, p)
	}
}

// levelsOf tells the levels of a text, of which there is no error.
func levelsOf(t *testing.T, l []rune, base uint8) ([]uint8, uint8) {
	t.Helper()
	levels, paragraph, e := bidi.Levels(l, base)
	if e != api.OK || len(levels) != len(l) {
		t.Fatalf("Levels(%+q, %d): %d %d", l, base, levels, e)
	}
	return levels, paragraph
}
