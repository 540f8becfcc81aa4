package font_test

import (
	"math"
	"math/rand"
	"slices"
	"testing"

	"calamus/api"
	"calamus/font"
)

// P9.2: of no font, and of empty lists.
func TestAskNothing(t *testing.T) {
	for _, f := range []api.Font{{}, {Advances: []uint16{}, Classes: []uint8{}, Maps: []api.Map{}}} {
		for _, n := range []int{0, 1, 65, 65535} {
			if font.Glyph(f, rune(n)) != 0 || font.Class(f, uint16(n)) != 0 || font.Advance(f, uint16(n)) != 0 {
				t.Errorf("%d of nothing", n)
			}
		}
	}
}

// P9.2: Glyph of a font that was read, of all characters and what is none.
func TestGlyphRead(t *testing.T) {
	f, _ := font.Read(whole().bytes())
	want := map[rune]uint16{65: 1, 66: 2, 67: 3, 0x5D0: 5, 0x1F600: 8, 0x1F601: 9}
	for r := rune(-70000); r < 0x120000; r++ {
		if g := font.Glyph(f, r); g != want[r] {
			t.Errorf("Glyph(%X): %d, want %d", r, g, want[r])
		}
	}
	for _, r := range []rune{math.MinInt32, math.MaxInt32, 65 - 1<<31, 65 + 1<<16, 65 + 1<<24} {
		if g := font.Glyph(f, r); g != 0 {
			t.Errorf("Glyph(%X): %d", r, g)
		}
	}
}

// P9.2: the first Map of a character counts, though they do not rise, though its
// glyph be 0.
func TestGlyphFirst(t *testing.T) {
	f := api.Font{Maps: []api.Map{{Rune: 70, Glyph: 4}, {Rune: 65, Glyph: 3}, {Rune: 65, Glyph: 2}, {Rune: -5, Glyph: 9}, {Rune: 90}, {Rune: 90, Glyph: 8},
		{Rune: 64, Glyph: 65535}, {Rune: math.MaxInt32, Glyph: 6}, {Rune: math.MinInt32, Glyph: 7}, {Rune: 0xD800, Glyph: 1}, {Rune: 70, Glyph: 5}, {Rune: 0, Glyph: 12}}}
	for _, x := range []struct {
		r    rune
		want uint16
	}{{70, 4}, {65, 3}, {-5, 9}, {90, 0}, {64, 65535}, {math.MaxInt32, 6}, {math.MinInt32, 7}, {0xD800, 1}, {0, 12}, {71, 0}, {-6, 0}, {5, 0}} {
		if g := font.Glyph(f, x.r); g != x.want {
			t.Errorf("Glyph(%d): %d, want %d", x.r, g, x.want)
		}
	}
}

// P9.2: Glyph of any Maps.
func TestGlyphAtRandom(t *testing.T) {
	r := rand.New(rand.NewSource(92))
	for range 5000 {
		var f api.Font
		first := map[rune]uint16{}
		for range r.Intn(30) {
			m := api.Map{Rune: rune(r.Intn(40) - 5), Glyph: uint16(r.Intn(4))}
			f.Maps = append(f.Maps, m)
			if _, ok := first[m.Rune]; !ok {
				first[m.Rune] = m.Glyph
			}
		}
		if r.Intn(2) == 0 {
			slices.SortStableFunc(f.Maps, func(a, b api.Map) int { return int(a.Rune - b.Rune) })
		}
		for c := rune(-7); c < 40; c++ {
			if g := font.Glyph(f, c); g != first[c] {
				t.Fatalf("%v: Glyph(%d) is %d, want %d", f.Maps, c, g, first[c])
			}
		}
	}
}

// P9.2: Class and Advance, each of its own list, however long that is.
func TestClassAndAdvance(t *testing.T) {
	for _, n := range []int{0, 1, 2, 9, 300, 65535, 65536, 65537, 70000} {
		f := api.Font{Advances: make([]uint16, n), Classes: make([]uint8, n/2)}
		for i := range f.Advances {
			f.Advances[i] = uint16(i*7 + 1)
		}
		for i := range f.Classes {
			f.Classes[i] = uint8(i*3 + 1)
		}
		for g := range 65536 {
			advance, class := uint16(0), uint8(0)
			if g < n {
				advance = uint16(g*7 + 1)
			}
			if g < n/2 {
				class = uint8(g*3 + 1)
			}
			if a, c := font.Advance(f, uint16(g)), font.Class(f, uint16(g)); a != advance || c != class {
				t.Fatalf("%d of %d: %d %d, want %d %d", g, n, a, c, advance, class)
			}
		}
	}
	f := api.Font{Advances: []uint16{1, 2, 3}[:1], Classes: []uint8{1, 2, 3}[:2]}
	if font.Advance(f, 1) != 0 || font.Class(f, 2) != 0 || font.Class(f, 1) != 2 {
		t.Error("what is behind a list's length is told")
	}
}
