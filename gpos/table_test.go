package gpos_test

import (
	"math"
	"math/rand"
	"slices"
	"testing"

	"calamus/api"
	"calamus/bin"
	"calamus/gpos"
)

// P8.1: no reader, a bad one, one that is made by hand.
func TestNoReaders(t *testing.T) {
	b := everyType().bytes()
	bad := bin.Open(b)
	bad.Byte(len(b))
	whole := bin.Open(append(slices.Clone(b), 0))
	part := whole.Part(0, len(b))
	whole.Byte(-1)
	for i, r := range []*bin.Reader{nil, bad, part, new(bin.Reader), bin.Open(nil)} {
		if l, features, e := gpos.Parse(r, 10); l != nil || features != nil || e != api.ErrFont {
			t.Errorf("%d: %v %v %d", i, l, features, e)
		}
	}
	none := table(nil).bytes()
	r := bin.Open(none)
	r.Byte(-1)
	if _, _, e := gpos.Parse(r, 10); e != api.ErrFont {
		t.Errorf("a bad reader of no lookups: %d", e)
	}
}

// P8.1: the numbers that a table begins with.
func TestBeginning(t *testing.T) {
	b := everyType().bytes()
	for _, x := range [][2]int{{0, 1}, {2, 0}} {
		at, right := x[0], x[1]
		for n := range 65536 {
			b[at], b[at+1] = byte(n>>8), byte(n)
			if _, _, e := gpos.Parse(bin.Open(b), 10); (e == api.OK) != (n == right) {
				t.Fatalf("%d at %d: %d", n, at, e)
			}
		}
		b[at], b[at+1] = byte(right>>8), byte(right)
	}
	want, named := everyAnswer()
	for n := range 65536 {
		b[4], b[5] = byte(n>>8), byte(n)
		l, features, e := gpos.Parse(bin.Open(b), 10)
		if e != api.OK || !slices.EqualFunc(l, want, sameAnswer) || !slices.EqualFunc(features, named, sameFeature) {
			t.Fatalf("%d, which is not looked at: %v %v %d", n, l, features, e)
		}
	}
	for n := range 10 {
		isNone(t, "cut off", b[:n], 10)
	}
}

// P8.1: places of features and of lookups, wherever they are.
func TestPlaces(t *testing.T) {
	b := everyType().bytes()
	right := 0
	for place := range len(b) + 9 {
		for _, at := range []int{6, 8} {
			c := slices.Clone(b)
			c[at], c[at+1] = byte(place>>8), byte(place)
			if asWords(t, c, 10) {
				right++
			}
		}
	}
	if right < 2 {
		t.Errorf("%d are right", right)
	}
}

// P8.1: no lookups, and no features; what is around the reader's bytes.
func TestNothingInIt(t *testing.T) {
	for _, glyphs := range []int{math.MinInt, -1, 0, 1, 65535, 65536, math.MaxInt} {
		l, features, e := gpos.Parse(bin.Open(table(nil).bytes()), glyphs)
		if e != api.OK || len(l) != 0 || len(features) != 0 {
			t.Errorf("%d glyphs: %v %v %d", glyphs, l, features, e)
		}
	}
	l, features := isTable(t, "a feature of nothing", table([]block{feature("kern")}).bytes())
	if len(l) != 0 || len(features) != 1 || features[0].Tag != (api.Tag{'k', 'e', 'r', 'n'}) || len(features[0].Lookups) != 0 {
		t.Errorf("a feature of nothing: %v %v", l, features)
	}
	isNone(t, "a feature of a lookup that is none", table([]block{feature("kern", 0)}).bytes(), 10)
}

// P8.1: a part of a reader is a table of its own.
func TestParts(t *testing.T) {
	b := everyType().bytes()
	want, named := everyAnswer()
	r := bin.Open(slices.Concat([]byte{255, 255, 255}, b, []byte{0, 1, 0, 5, 0, 5}))
	l, features, e := gpos.Parse(r.Part(3, len(b)), 10)
	if e != api.OK || r.Bad() || !slices.EqualFunc(l, want, sameAnswer) || !slices.EqualFunc(features, named, sameFeature) {
		t.Errorf("%v %v %d, bad: %t", l, features, e, r.Bad())
	}
	if l, _, e := gpos.Parse(r.Part(3, len(b)-1), 10); e != api.ErrFont || l != nil {
		t.Errorf("a byte less: %v %d", l, e)
	}
}

// P8.1: the lookups that features name.
func TestNamedLookups(t *testing.T) {
	one := lookup(2, 0, kerns(glyphs(1), seconds(1, 1)))
	for n := range 5 {
		features := []block{feature("aaaa", n), feature("bbbb", 0)}
		if _, _, e := gpos.Parse(bin.Open(table(features, one, one, one).bytes()), 10); (e == api.OK) != (n < 3) {
			t.Errorf("a feature's lookup %d of 3: %d", n, e)
		}
	}
}

// P8.1: as many lookups and subtables as there may be, and one more.
func TestMostLookups(t *testing.T) {
	sub := kerns(glyphs(1), seconds(1, 1))
	for _, n := range []int{255, 256, 257} {
		one := lookup(2, 0, sub)
		l, _, e := gpos.Parse(bin.Open(table(nil, slices.Repeat([]block{one}, n)...).bytes()), 10)
		if n <= 256 && (e != api.OK || len(l) != n || len(l[n-1].Poss) != 1) || n > 256 && (e != api.ErrFont || l != nil) {
			t.Errorf("%d lookups: %d, %d", n, len(l), e)
		}
		l, _, e = gpos.Parse(bin.Open(table(nil, lookup(2, 0, slices.Repeat([]block{sub}, n)...)).bytes()), 10)
		if n <= 256 && (e != api.OK || len(l) != 1 || len(l[0].Poss) != n) || n > 256 && (e != api.ErrFont || l != nil) {
			t.Errorf("%d subtables: %d, %d", n, len(l), e)
		}
	}
}

// P8.1: one subtable of several that is wrong, and one lookup.
func TestOneWrong(t *testing.T) {
	right, wrong := kerns(glyphs(1), seconds(1, 1)), kerns(glyphs(1), seconds(10, 1))
	isNone(t, "the first one", table(nil, lookup(2, 0, wrong, right)).bytes(), 10)
	isNone(t, "the last one", table(nil, lookup(2, 0, right, right, wrong)).bytes(), 10)
	isNone(t, "a lookup that nothing names", table([]block{feature("kern", 0)}, lookup(2, 0, right), lookup(2, 0, wrong)).bytes(), 10)
	isNone(t, "a type that nothing names", table([]block{feature("kern", 0)}, lookup(2, 0, right), lookup(1, 0, right)).bytes(), 10)
	isNone(t, "a subtable of another type", table(nil, lookup(2, 0, right, attach(glyphs(1), glyphs(2), 1, marks(0, point(1, 1)), bases(1, 0)))).bytes(), 10)
	isNone(t, "a subtable that is nowhere", table(nil, block{2, 0, 2, right, 500}).bytes(), 10)
	isNone(t, "a flag", table(nil, lookup(2, 16, right)).bytes(), 10)
	isNone(t, "a lookup without subtables", table(nil, lookup(2, 0)).bytes(), 10)
	isNone(t, "a feature that begins with 1", table([]block{{0, 0, block{1, 0}}}, lookup(2, 0, right)).bytes(), 10)
}

// oneOfEach are right subtables of all types, whose greatest glyph stands where
// it can, and how many glyphs they need.
func oneOfEach() []struct {
	kind, need int
	sub        block
} {
	p := point(1, 2)
	return []struct {
		kind, need int
		sub        block
	}{
		{2, 8, kerns(glyphs(4), seconds(5, 1, 7, 2))},
		{2, 8, kerns(glyphs(4, 5), seconds(7, 1), seconds(3, 2))},
		{2, 9, kerns(glyphs(4, 8), seconds(7, 1), seconds(7, 2))},
		{2, 300, kerns(glyphs(4, 8), seconds(7, 1, 299, 3), seconds(7, 2))},
		{2, 65536, kerns(glyphs(4), seconds(65535, 9))},
		{4, 6, attach(glyphs(3, 5), glyphs(4), 1, marks(0, p, 0, p), bases(1, 0))},
		{4, 10, attach(glyphs(3, 5), span(4, 9), 1, marks(0, p, 0, p), bases(1, 0, 0, 0, 0, 0, p))},
		{6, 7, attach(span(5, 6), glyphs(1), 2, marks(0, p, 1, p), bases(2, 0, p))},
		{6, 65536, attach(glyphs(5), glyphs(65535), 1, marks(0, p), bases(1, 0))},
	}
}

// P8.1, P8.3: a glyph is right, if it is below the number of them.
func TestRightGlyphs(t *testing.T) {
	for i, x := range oneOfEach() {
		b := only(x.kind, x.sub)
		for _, glyphs := range []int{math.MinInt, -65536, -1, 0, 1, 5, 6, 7, 8, 9, 10, 299, 300, 65535, 65536, 1 << 32, math.MaxInt} {
			if _, _, e := gpos.Parse(bin.Open(b), glyphs); (e == api.OK) != (glyphs >= x.need) {
				t.Errorf("%d, of %d glyphs: %d", i, glyphs, e)
			}
		}
		asWords(t, b, x.need-1)
		asWords(t, b, x.need)
	}
}

// P8.1: each byte, whatever it is; every length.
func TestEveryByte(t *testing.T) {
	tables := [][]byte{everyType().bytes()}
	for _, x := range oneOfEach() {
		tables = append(tables, only(x.kind, x.sub))
	}
	for _, b := range tables {
		for at := range b {
			changed := slices.Clone(b)
			for n := range 256 {
				changed[at] = byte(n)
				asWords(t, changed, 10)
			}
		}
		for n := range len(b) + 1 {
			asWords(t, b[:n], 10)
		}
	}
}

// P8.1: tables of all kinds, and what is nearly one; P8.3 of what they tell.
func TestAtRandom(t *testing.T) {
	r := rand.New(rand.NewSource(81))
	right := 0
	for range 40000 {
		b := anyTable(r).bytes()
		for range r.Intn(3) {
			b[r.Intn(len(b))] += byte(r.Intn(5) - 2)
		}
		if asWords(t, b, 12) {
			right++
			followsOf(t, b, 12)
		}
	}
	if right < 10000 || right > 35000 {
		t.Errorf("%d of 40000 are tables", right)
	}
}
