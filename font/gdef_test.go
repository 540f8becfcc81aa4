package font_test

import (
	"fmt"
	"slices"
	"testing"

	"calamus/api"
	"calamus/font"
)

// isGDEF: does a font with that GDEF have these classes, if it is one?
func isGDEF(t *testing.T, what string, gdef []byte, classes []uint8, ok bool) {
	t.Helper()
	want := wholeFont()
	want.Classes = classes
	isThat(t, what, whole().with("GDEF", gdef).bytes(), want, ok)
}

// P9.1: the numbers that a GDEF begins with.
func TestBeginningOfGDEF(t *testing.T) {
	right := map[int][]int{0: {1}, 2: {0, 2, 3}}
	for _, at := range []int{0, 2} {
		for n := range 65536 {
			if n > 600 && n%256 > 4 {
				continue // more of what is wrong anyway
			}
			b := whole()["GDEF"]
			copy(b[at:], block{n}.bytes())
			isGDEF(t, fmt.Sprintf("%d at %d", n, at), b, wholeFont().Classes, slices.Contains(right[at], n))
		}
	}
}

// P9.1: of fewer than twelve bytes there is none, wherever its classes are.
func TestSizeOfGDEF(t *testing.T) {
	for n := range 20 {
		ok := n >= 12
		isGDEF(t, "no classes", filled([]byte{0, 1}, 20)[:n], make([]uint8, 10), ok)
		isGDEF(t, "classes within it", filled([]byte{0, 1, 0, 0, 0, 6, 0, 2}, 20)[:n], make([]uint8, 10), ok)
	}
}

// P9.1: where the classes begin; 0 says that there are none, whatever stands
// behind.
func TestPlaceOfClasses(t *testing.T) {
	classes := block{1, 2, 3, 4, 0, 3}
	want := []uint8{0, 0, 4, 0, 3, 0, 0, 0, 0, 0}
	b := aGDEF(classes)
	for place := range 65536 {
		if place > 50 && place%64 > 2 {
			continue // more of what is wrong anyway
		}
		copy(b[4:], block{place}.bytes())
		l, ok := wantedClasses(parts{"GDEF": b}, 10)
		isGDEF(t, fmt.Sprintf("the place %d", place), b, l, ok)
		if place == 0 && !slices.Equal(l, make([]uint8, 10)) || place == 12 && !slices.Equal(l, want) {
			t.Errorf("the place %d: %d", place, l)
		}
	}
	first := join(block{1, 0, 0, 9, 9, 9}, classes)
	isGDEF(t, "no place", first.bytes(), make([]uint8, 10), true)
}

// P9.1: no classes in a font of hardly any glyphs: the numbers that a GDEF begins
// with are none, however few glyphs there are.
func TestNoPlaceOfFewGlyphs(t *testing.T) {
	for n := 1; n < 5; n++ {
		p := plain().with("cmap", wholeMap()).with("maxp", aMaxp(n)).with("hhea", anHhea(1, 2, 1)).with("hmtx", anHmtx(n-1, 500))
		for _, minor := range []int{0, 2, 3} {
			f, e := font.Read(p.with("GDEF", block{1, minor, 0, 0, 0, 0}.bytes()).bytes())
			if e != api.OK || !slices.Equal(f.Classes, make([]uint8, n)) {
				t.Errorf("%d glyphs, %d: %d, %d", n, minor, f.Classes, e)
			}
		}
	}
}

// P9.1: the classes are chapter 6's, of all glyphs.
func TestClassesOfGDEF(t *testing.T) {
	isGDEF(t, "the first and the last glyph", aGDEF(block{2, 2, 0, 0, 4, 9, 9, 1}), []uint8{4, 0, 0, 0, 0, 0, 0, 0, 0, 1}, true)
	isGDEF(t, "a glyph that there is not", aGDEF(block{2, 2, 0, 0, 4, 9, 10, 1}), nil, false)
	isGDEF(t, "the class 5", aGDEF(block{2, 1, 0, 0, 5}), nil, false)
	isGDEF(t, "the format 3", aGDEF(block{3, 0, 0, 0, 5}), nil, false)
	isGDEF(t, "ten of a row", aGDEF(block{1, 0, 10, 1, 1, 1, 1, 1, 1, 1, 1, 1, 2}), []uint8{1, 1, 1, 1, 1, 1, 1, 1, 1, 2}, true)
	isGDEF(t, "eleven of a row", aGDEF(block{1, 0, 11, 1, 1, 1, 1, 1, 1, 1, 1, 1, 2, 0}), nil, false)
	isGDEF(t, "none of a row", aGDEF(block{1, 10, 0}), make([]uint8, 10), true)
}
