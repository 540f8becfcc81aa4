package cover_test

import (
	"math"
	"math/rand"
	"slices"
	"testing"

	"calamus/api"
	"calamus/bin"
	"calamus/cover"
)

// classesByWords tells the classes of glyphs, as the chapter's words say.
func classesByWords(b []byte, at, glyphs int) ([]uint8, bool) {
	format, ok := wordsAt(b, at, 1)
	if !ok || glyphs < 0 || glyphs > 65536 {
		return nil, false
	}
	var l, classes []int
	switch format[0] {
	case 1:
		first, ok := wordsAt(b, at+2, 1)
		if !ok {
			return nil, false
		}
		classes, ok = counted(b, at+4, 1)
		if !ok || first[0]+len(classes) > glyphs {
			return nil, false
		}
		for i := range classes {
			l = append(l, first[0]+i)
		}
	case 2:
		ranges, ok := counted(b, at+2, 3)
		if !ok {
			return nil, false
		}
		if l, classes, ok = rangeGlyphs(ranges); !ok {
			return nil, false
		}
	default:
		return nil, false
	}
	out := make([]uint8, glyphs)
	for i, g := range l {
		if g >= glyphs || classes[i] > 4 {
			return nil, false
		}
		out[g] = uint8(classes[i])
	}
	return out, true
}

// sameClasses: does Classes tell what the words say? Tells whether there are some.
func sameClasses(t *testing.T, b []byte, at, glyphs int) bool {
	t.Helper()
	want, ok := classesByWords(b, at, glyphs)
	if l, e := cover.Classes(bin.Open(b), at, glyphs); !slices.Equal(l, want) || e != numberOf(ok) || !ok && l != nil {
		t.Fatalf("%d at %d of %d glyphs: %d %d, want %d %t", b, at, glyphs, l, e, want, ok)
	}
	return ok
}

// P6.2: the chapter's example, and others by hand.
func TestClassesByHand(t *testing.T) {
	areClasses(t, "the example", []byte{0, 2, 0, 1, 0, 1, 0, 2, 0, 3}, 4, 0, 3, 3, 0)
	areClasses(t, "format 1", words(1, 2, 2, 1, 4), 4, 0, 0, 1, 4)
	areClasses(t, "format 1, fewer than there are glyphs", words(1, 1, 2, 1, 2), 6, 0, 1, 2, 0, 0, 0)
	areClasses(t, "every class", words(1, 0, 5, 0, 1, 2, 3, 4), 5, 0, 1, 2, 3, 4)
	areClasses(t, "every class, by ranges", words(2, 5, 0, 0, 0, 1, 1, 1, 2, 2, 2, 3, 3, 3, 4, 4, 4), 5, 0, 1, 2, 3, 4)
	areClasses(t, "side by side, one class", words(2, 2, 0, 1, 2, 2, 3, 2), 5, 2, 2, 2, 2, 0)
	areClasses(t, "none told", words(2, 0), 3, 0, 0, 0)
	areClasses(t, "none told of format 1", words(1, 0, 0), 3, 0, 0, 0)
	areClasses(t, "no glyphs", words(2, 0), 0)
	areClasses(t, "no glyphs, format 1", words(1, 0, 0), 0)
	areClasses(t, "more behind", words(1, 1, 1, 3, 9, 9), 2, 0, 3)
	areClasses(t, "more behind ranges", words(2, 1, 1, 1, 3, 0, 0, 9), 2, 0, 3)
}

// P6.2: what is wrong of either format.
func TestClassesWrong(t *testing.T) {
	areNoClasses(t, "no format 0", words(0, 0, 0), 4)
	areNoClasses(t, "no format 3", words(3, 0, 0), 4)
	areNoClasses(t, "no format 513", words(513, 0), 4)
	areNoClasses(t, "class 5", words(1, 0, 2, 1, 5), 4)
	areNoClasses(t, "class 256", words(1, 0, 1, 256), 4)
	areNoClasses(t, "class 65535", words(1, 0, 1, 65535), 4)
	areNoClasses(t, "class 5 of a range", words(2, 1, 0, 1, 5), 4)
	areNoClasses(t, "class 257 of a range", words(2, 1, 0, 1, 257), 4)
	areNoClasses(t, "one too many", words(1, 3, 2, 1, 4), 4)
	areNoClasses(t, "a last one that is not right", words(2, 1, 1, 4, 3), 4)
	areNoClasses(t, "a range that falls", words(2, 1, 2, 1, 3), 4)
	areNoClasses(t, "ranges that share a glyph", words(2, 2, 0, 1, 3, 1, 2, 3), 4)
	areNoClasses(t, "ranges that fall", words(2, 2, 2, 3, 3, 0, 1, 3), 4)
	areNoClasses(t, "too few", words(1, 0, 3, 1, 1), 4)
	areNoClasses(t, "too few ranges", words(2, 2, 0, 1, 1, 2, 3), 4)
}

// P6.2: a row of no classes begins at the number of glyphs, at most.
func TestClassesOfAnEmptyRow(t *testing.T) {
	for first := range 6 {
		for glyphs := range 6 {
			b := words(1, first, 0)
			if sameClasses(t, b, 0, glyphs) != (first <= glyphs) {
				t.Errorf("from %d on, of %d glyphs", first, glyphs)
			}
		}
	}
	areClasses(t, "first 65535 of so many", words(1, 65535, 0), 65535, make([]uint8, 65535)...)
	areNoClasses(t, "first 65535 of fewer", words(1, 65535, 0), 65534)
}

// P6.2: how many glyphs there may be.
func TestClassesOfGlyphs(t *testing.T) {
	for _, b := range [][]byte{words(1, 0, 0), words(2, 0), words(1, 0, 2, 1, 2), words(2, 1, 0, 1, 1), words(1, 65535, 1, 4), words(2, 1, 65534, 65535, 3), words(2, 1, 0, 65535, 2)} {
		for _, glyphs := range []int{math.MinInt, -65536, -2, -1, 0, 1, 2, 3, 65534, 65535, 65536, 65537, 131072, 1 << 32, math.MaxInt} {
			sameClasses(t, b, 0, glyphs)
		}
	}
	if l, e := cover.Classes(bin.Open(words(2, 1, 0, 65535, 2)), 0, 65536); e != api.OK || len(l) != 65536 || slices.ContainsFunc(l, func(c uint8) bool { return c != 2 }) {
		t.Errorf("a range of all: %d glyphs, %d", len(l), e)
	}
	row := append([]int{1, 0, 65535}, slices.Repeat([]int{3}, 65535)...)
	for _, glyphs := range []int{65534, 65535, 65536} {
		sameClasses(t, words(row...), 0, glyphs)
		row[1] = 1
		sameClasses(t, words(row...), 0, glyphs)
		row[1] = 0
	}
}

// P6.2: each byte, whatever it is; every length.
func TestClassesOfBytes(t *testing.T) {
	for _, b := range [][]byte{words(1, 1, 3, 4, 0, 2), words(2, 2, 1, 3, 4, 5, 6, 1), words(1, 2, 0), words(2, 0)} {
		for _, glyphs := range []int{4, 300} {
			everyByte(b, func(b []byte) { sameClasses(t, b, 0, glyphs) })
		}
	}
}

// P6.2: at other places; at those where nothing is.
func TestClassesAtPlaces(t *testing.T) {
	for _, b := range [][]byte{words(1, 2, 2, 1, 4), words(2, 2, 0, 1, 2, 3, 3, 4), words(1, 3, 0), words(2, 0)} {
		want, _ := classesByWords(b, 0, 4)
		for n := range 9 {
			if l, e := cover.Classes(behind(b, n), n, 4); e != api.OK || !slices.Equal(l, want) {
				t.Errorf("%d at %d: %d %d", b, n, l, e)
			}
		}
		for at := -8; at < len(b)+8; at++ {
			sameClasses(t, b, at, 4)
		}
		for _, at := range farPlaces() {
			sameClasses(t, b, at, 4)
		}
	}
}

// P6.2: no reader, a bad one, one that is made by hand.
func TestClassesOfNone(t *testing.T) {
	for _, b := range [][]byte{words(1, 0, 1, 3), words(2, 1, 0, 0, 3), words(1, 0, 0), words(2, 0)} {
		for i, r := range noReaders(b) {
			if l, e := cover.Classes(r, 0, 4); l != nil || e != api.ErrFont {
				t.Errorf("%d: %d %d", i, l, e)
			}
		}
	}
}

// P6.2: classes of all kinds, and what is nearly some.
func TestClassesAtRandom(t *testing.T) {
	r := rand.New(rand.NewSource(62))
	right := 0
	for range 60000 {
		n, g := r.Intn(5), r.Intn(3)
		l := []int{1, g, n}
		if r.Intn(2) == 0 {
			l = []int{2, n}
		}
		for range n {
			last := g + r.Intn(3)
			if l[0] == 2 {
				l = append(l, g, last)
			}
			l, g = append(l, r.Intn(5)), last+1+r.Intn(2)
		}
		if r.Intn(2) == 0 {
			l[r.Intn(len(l))] += r.Intn(3) - 1
		}
		if sameClasses(t, words(l...), r.Intn(8)/7*2, 6+r.Intn(15)) {
			right++
		}
		sameClasses(t, append(words(1+r.Intn(2)), someWords(r, r.Intn(12), 4)...), 0, 1+r.Intn(6))
	}
	if right < 10000 || right > 50000 {
		t.Errorf("%d of 60000 are classes", right)
	}
}
