package sfnt_test

import (
	"math"
	"math/rand"
	"slices"
	"testing"

	"calamus/api"
	"calamus/bin"
	"calamus/sfnt"
)

// P5.5: which subtable counts.
func TestMapsCounting(t *testing.T) {
	row, segment := format12([3]int{65, 65, 2}), format4([][4]int{{66, 66, 65536 - 63, 0}, {65535, 65535, 1, 0}})
	a, b := api.Map{Rune: 65, Glyph: 2}, api.Map{Rune: 66, Glyph: 3}
	junk := []byte{0, 12, 1}
	areMaps(t, "(3, 10)", cmap(encoded{3, 10, row}), 9, a)
	areMaps(t, "(3, 1)", cmap(encoded{3, 1, segment}), 9, b)
	areMaps(t, "both", cmap(encoded{3, 1, segment}, encoded{3, 10, row}), 9, a)
	areMaps(t, "others, too", cmap(encoded{0, 3, junk}, encoded{1, 0, junk}, encoded{3, 0, junk}, encoded{3, 1, segment}, encoded{3, 9, junk}, encoded{3, 11, junk}, encoded{4, 10, row}), 9, b)
	areMaps(t, "(3, 1) is wrong", cmap(encoded{3, 1, junk}, encoded{3, 10, row}), 9, a)
	areMaps(t, "(3, 1) of the format 4 is wrong", cmap(encoded{3, 1, segment[:8]}, encoded{3, 10, row}), 9, a)
	areMaps(t, "(3, 10) of the format 4", cmap(encoded{3, 1, segment}, encoded{3, 10, segment}), 9, b)
	areMaps(t, "(3, 10) of the format 13", cmap(encoded{3, 1, segment}, encoded{3, 10, changed(row, [3]int{0, 2, 13})}), 9, b)
	areNoMaps(t, "(3, 10) is wrong", cmap(encoded{3, 1, segment}, encoded{3, 10, changed(row, [3]int{2, 2, 1})}), 9)
	areNoMaps(t, "(3, 1) of the format 12", cmap(encoded{3, 1, row}), 9)
	areNoMaps(t, "(3, 1) of the format 6", cmap(encoded{3, 1, changed(segment, [3]int{0, 2, 6})}), 9)
	areNoMaps(t, "(3, 10) of the format 4 alone", cmap(encoded{3, 10, segment}), 9)
	areNoMaps(t, "(0, 4)", cmap(encoded{0, 4, row}), 9)
	areNoMaps(t, "(0, 3)", cmap(encoded{0, 3, segment}), 9)
	areNoMaps(t, "(10, 3)", cmap(encoded{10, 3, row}), 9)
	areNoMaps(t, "(1, 3)", cmap(encoded{1, 3, segment}), 9)
	areNoMaps(t, "none", cmap(), 9)
}

// P5.5: the numbers ahead, and the records.
func TestMapsRecords(t *testing.T) {
	row, segment := format12([3]int{65, 65, 2}), format4([][4]int{{66, 66, 65536 - 63, 0}, {65535, 65535, 1, 0}})
	a, b := api.Map{Rune: 65, Glyph: 2}, api.Map{Rune: 66, Glyph: 3}
	both := cmap(encoded{3, 1, segment}, encoded{3, 10, row})
	areNoMaps(t, "version 1", changed(both, [3]int{0, 2, 1}), 9)
	areNoMaps(t, "no record", changed(both, [3]int{2, 2, 0}), 9)
	areNoMaps(t, "more records than bytes", changed(both, [3]int{2, 2, 65535}), 9)
	areNoMaps(t, "falling encodings", cmap(encoded{3, 10, row}, encoded{3, 1, segment}), 9)
	areNoMaps(t, "falling platforms", cmap(encoded{3, 10, row}, encoded{0, 11, segment}), 9)
	areNoMaps(t, "alike", cmap(encoded{3, 10, row}, encoded{3, 10, row}), 9)
	areNoMaps(t, "others alike", cmap(encoded{0, 3, row}, encoded{0, 3, row}, encoded{3, 10, row}), 9)
	areNoMaps(t, "others alike behind", cmap(encoded{3, 10, row}, encoded{4, 0, row}, encoded{4, 0, row}), 9)
	areMaps(t, "an encoding less, a platform more", cmap(encoded{2, 65535, segment}, encoded{3, 1, segment}, encoded{65535, 0, row}), 9, b)
	for _, at := range []int{len(both) - 1, len(both), len(both) + 1, 1 << 31, 1<<32 - 1} {
		areMaps(t, "(3, 10) outside", changed(both, [3]int{16, 4, at}), 9, b)
		areNoMaps(t, "(3, 10) outside, alone", changed(cmap(encoded{3, 10, row}), [3]int{8, 4, at}), 9)
		areNoMaps(t, "both outside", changed(both, [3]int{8, 4, at}, [3]int{16, 4, at}), 9)
		areMaps(t, "(3, 1) outside", changed(both, [3]int{8, 4, at}), 9, a)
		areNoMaps(t, "(3, 1) outside, alone", changed(cmap(encoded{3, 1, segment}), [3]int{8, 4, at}), 9)
		areMaps(t, "another outside", changed(cmap(encoded{0, 3, nil}, encoded{3, 1, segment}), [3]int{8, 4, at}), 9, b)
	}
	begin := len(both) - len(row)
	for n := range both {
		if n == begin || n == begin+1 {
			areMaps(t, "cut off ahead of the format 12", both[:n], 9, b)
		} else {
			areNoMaps(t, "cut off", both[:n], 9)
		}
	}
	areMaps(t, "more behind", append(both, 1, 2, 3), 9, a)
	twin := cmap(encoded{3, 10, row}, encoded{4, 0, nil})
	areMaps(t, "one that is shared", changed(twin, [3]int{16, 4, 20}), 9, a)
}

// P5.5: a record's place, wherever it is, counts if the format stands there; a
// subtable of that format that is cut off is wrong, one of no format is none.
func TestMapsPlaces(t *testing.T) {
	row, segment := format12([3]int{65, 65, 2}), format4([][4]int{{66, 66, 65536 - 63, 0}, {65535, 65535, 1, 0}})
	both := append(cmap(encoded{3, 1, segment}, encoded{3, 10, row}), 0, 12)
	areNoMaps(t, "the format 12 alone, at the end", changed(both, [3]int{16, 4, len(both) - 2}), 9)
	areMaps(t, "a byte of it", changed(both, [3]int{16, 4, len(both) - 1}), 9, api.Map{Rune: 66, Glyph: 3})
	right := 0
	for at := range len(both) + 9 {
		if sameMaps(t, changed(both, [3]int{16, 4, at}), 9) {
			right++
		}
		sameMaps(t, changed(both, [3]int{8, 4, at}), 9)
		sameMaps(t, changed(both, [3]int{8, 4, at}, [3]int{16, 4, len(both)}), 9)
	}
	if right < len(both)+4 {
		t.Errorf("%d right ones of %d", right, len(both)+9)
	}
	r := bin.Open(changed(both, [3]int{16, 4, len(both)}))
	for range 2 {
		if l, e := sfnt.Maps(r, 9); e != api.OK || len(l) != 1 || r.Bad() {
			t.Errorf("asked again: %v %d, bad: %t", l, e, r.Bad())
		}
	}
}

// P5.5: the example of the format 12, and its glyphs' number.
func TestFormat12ByHand(t *testing.T) {
	b := only12([3]int{65, 67, 5}, [3]int{70, 70, 0})
	want := []api.Map{{Rune: 65, Glyph: 5}, {Rune: 66, Glyph: 6}, {Rune: 67, Glyph: 7}}
	areMaps(t, "three", b, 8, want...)
	for _, glyphs := range []int{9, 65535, 65536, 1 << 40, math.MaxInt} {
		areMaps(t, "more glyphs", b, glyphs, want...)
	}
	for _, glyphs := range []int{math.MinInt, -1, 0, 1, 5, 6, 7} {
		areNoMaps(t, "too few glyphs", b, glyphs)
	}
	for _, glyphs := range []int{math.MinInt, 0, 1, 9} {
		areMaps(t, "no group", only12(), glyphs)
		areMaps(t, "a glyph 0", only12([3]int{5, 5, 0}), glyphs)
	}
	areMaps(t, "on from 0", only12([3]int{0, 2, 0}), 3, api.Map{Rune: 1, Glyph: 1}, api.Map{Rune: 2, Glyph: 2})
	areMaps(t, "the last one", only12([3]int{1114110, 1114111, 7}), 9, api.Map{Rune: 1114110, Glyph: 7}, api.Map{Rune: 1114111, Glyph: 8})
	areMaps(t, "side by side", only12([3]int{1, 1, 3}, [3]int{2, 2, 3}), 9, api.Map{Rune: 1, Glyph: 3}, api.Map{Rune: 2, Glyph: 3})
	areMaps(t, "the greatest glyph", only12([3]int{1, 2, 65534}), 65536, api.Map{Rune: 1, Glyph: 65534}, api.Map{Rune: 2, Glyph: 65535})
	areNoMaps(t, "the greatest glyph of 65535", only12([3]int{1, 2, 65534}), 65535)
}

// P5.5: what may not be of the format 12.
func TestFormat12Wrong(t *testing.T) {
	for what, groups := range map[string][][3]int{
		"first above last":          {{6, 5, 1}},
		"a last one too great":      {{1114111, 1114112, 1}},
		"a first one too great":     {{1114112, 1114112, 1}},
		"a huge last one":           {{1, 1<<32 - 1, 1}},
		"twice the same":            {{5, 6, 1}, {6, 7, 1}},
		"twice 0":                   {{0, 0, 1}, {0, 0, 1}},
		"falling":                   {{5, 6, 1}, {1, 2, 1}},
		"a glyph 65536":             {{1, 1, 65536}},
		"a glyph that comes to it":  {{1, 3, 65534}},
		"glyphs that wrap":          {{1, 3, 1<<32 - 1}},
		"a surrogate's 65536":       {{55296, 55296, 65536}},
		"surrogates' up to 65536":   {{55296, 57343, 65536 - 2047}},
		"0 by a wrap":               {{1, 1, 1 << 32}, {2, 2, 1<<32 - 1}},
		"surrogates', then another": {{57343, 57344, 65535}},
	} {
		areNoMaps(t, what, only12(groups...), 1<<20)
		sameMaps(t, only12(groups...), 1<<20)
	}
	b := only12([3]int{65, 67, 5})
	for at, numbers := range map[int][]int{14: {1, 12, 65535}, 16: {0, 1, 15, 16, 27, 29, 40, 1 << 31, 1<<32 - 1}, 24: {0, 2, 65536, 65537, 1 << 31, 1<<32 - 1}} {
		for _, n := range numbers {
			size := 4
			if at == 14 {
				size = 2
			}
			areNoMaps(t, "a number ahead of the groups", changed(b, [3]int{at, size, n}), 9)
		}
	}
	long := append(b, make([]byte, 12)...)
	areNoMaps(t, "too long", changed(long, [3]int{16, 4, 40}), 9)
	areNoMaps(t, "too short", changed(long, [3]int{24, 4, 2}), 9)
}

// P5.5: surrogates have no glyph; only one above 65535 is wrong.
func TestFormat12Surrogates(t *testing.T) {
	areMaps(t, "around them", only12([3]int{55294, 57345, 1}), 2053,
		api.Map{Rune: 55294, Glyph: 1}, api.Map{Rune: 55295, Glyph: 2}, api.Map{Rune: 57344, Glyph: 2051}, api.Map{Rune: 57345, Glyph: 2052})
	areMaps(t, "their glyphs are too great", only12([3]int{55296, 57343, 65535 - 2047}), 1)
	areMaps(t, "of no glyphs", only12([3]int{55296, 57343, 1}), 0)
}

// P5.5: as many groups as there may be, and one more; all characters.
func TestFormat12Many(t *testing.T) {
	groups := make([][3]int, 65537)
	for i := range groups {
		groups[i] = [3]int{3 * i, 3*i + 1, i % 7}
	}
	if !sameMaps(t, only12(groups[:65536]...), 9) || sameMaps(t, only12(groups...), 9) {
		t.Error("65536 groups may be, 65537 not")
	}
	var all [][3]int
	for first := 0; first < 1114112; first += 65536 {
		all = append(all, [3]int{first, first + 65535, 0})
	}
	if l, e := sfnt.Maps(bin.Open(only12(all...)), 65536); e != api.OK || len(l) != 17*65535-2048 {
		t.Errorf("%d characters, %d", len(l), e)
	}
}

// P5.5: the format 4, by hand.
func TestFormat4ByHand(t *testing.T) {
	last := [4]int{65535, 65535, 1, 0}
	b := only4([][4]int{{65, 66, 65535, 0}, {79, 80, 3, 4}, last}, 0, 7)
	want := []api.Map{{Rune: 65, Glyph: 64}, {Rune: 66, Glyph: 65}, {Rune: 80, Glyph: 10}}
	areMaps(t, "the one given", b, 66, want...)
	areNoMaps(t, "too few glyphs", b, 65)
	areNoMaps(t, "below 0 glyphs", b, -1)
	areMaps(t, "the last alone", only4([][4]int{last}), 0)
	areMaps(t, "all", only4([][4]int{{0, 65535, 1, 0}}), 65536, allBut(0xD800, 0xDFFF, 65535)...)
	areMaps(t, "FFFF has one", only4([][4]int{{65535, 65535, 6, 0}}), 6, api.Map{Rune: 65535, Glyph: 5})
	areMaps(t, "a sum that wraps to 0", only4([][4]int{{5, 6, 65536 - 6, 0}, last}), 65536, api.Map{Rune: 5, Glyph: 65535})
	areMaps(t, "a word that wraps to 0", only4([][4]int{{5, 7, 65535, 4}, last}, 1, 2, 0), 2, api.Map{Rune: 6, Glyph: 1})
	areMaps(t, "a word 0 is none", only4([][4]int{{5, 5, 9, 4}, last}, 0), 0)
	areMaps(t, "a word in the records", only4([][4]int{{5, 5, 0, 2}, {65535, 65535, 1, 0}}), 9)
	areMaps(t, "an odd offset", only4([][4]int{{5, 5, 0, 5}, last}, 0x1200, 0x34FF), 65536, api.Map{Rune: 5, Glyph: 0x34})
	areMaps(t, "two of one row", only4([][4]int{{5, 6, 0, 6}, {8, 9, 1, 4}, last}, 3, 4), 9,
		api.Map{Rune: 5, Glyph: 3}, api.Map{Rune: 6, Glyph: 4}, api.Map{Rune: 8, Glyph: 4}, api.Map{Rune: 9, Glyph: 5})
}

// allBut tells a glyph of each character up to 65535, one more than itself, but
// of these and of the last one.
func allBut(first, last, end rune) []api.Map {
	var l []api.Map
	for c := range end {
		if c < first || c > last {
			l = append(l, api.Map{Rune: c, Glyph: uint16(c + 1)})
		}
	}
	return l
}

// P5.5: what may not be of the format 4.
func TestFormat4Wrong(t *testing.T) {
	last := [4]int{65535, 65535, 1, 0}
	for what, segments := range map[string][][4]int{
		"none":                  {},
		"a start above its end": {{6, 5, 0, 0}, last},
		"twice the same":        {{5, 6, 0, 0}, {6, 7, 0, 0}, last},
		"twice 0":               {{0, 0, 1, 0}, {0, 0, 1, 0}, last},
		"falling":               {{5, 6, 0, 0}, {1, 2, 0, 0}, last},
		"another last one":      {{5, 6, 0, 0}, {65534, 65534, 1, 0}},
		"a word past the end":   {{5, 5, 0, 4}, last},
		"the last's, too":       {{5, 5, 0, 0}, {65535, 65535, 1, 65535}},
		"one byte past the end": {{5, 5, 0, 3}, last},
		"a surrogate's word":    {{55296, 55296, 0, 4}, last},
		"a row that runs out":   {{5, 9, 0, 2}, last},
	} {
		areNoMaps(t, what, only4(segments), 1<<20)
		sameMaps(t, only4(segments), 1<<20)
	}
	b := only4([][4]int{{65, 66, 65535, 0}, {79, 80, 3, 4}, last}, 0, 7)
	for at, numbers := range map[int][]int{14: {0, 16, 39, 40, 43, 45, 65535}, 18: {0, 1, 5, 7, 8, 4, 2, 65535, 65534}, 32: {1, 65535}} {
		for _, n := range numbers {
			areNoMaps(t, "a number", changed(b, [3]int{at, 2, n}), 99)
		}
	}
	long := append(slices.Clone(b), 0, 0)
	areNoMaps(t, "a length past the end", changed(b, [3]int{14, 2, 46}), 99)
	areMaps(t, "a length that is more", changed(long, [3]int{14, 2, 46}), 99, api.Map{Rune: 65, Glyph: 64}, api.Map{Rune: 66, Glyph: 65}, api.Map{Rune: 80, Glyph: 10})
	for size := range 32 {
		areNoMaps(t, "a length that cuts it off", changed(only4([][4]int{{5, 5, 0, 0}, last}), [3]int{14, 2, size}), 99)
	}
	odd := put("WWLWWWWWWWWWWWbbbbbbbbbbbbbbbbbb", 0, 1, 3<<16+1, 0, 12, 4, 32, 0, 3, 0, 0, 0, 255, 65280, 0, 0, 0, 1, 0, 0, 0, 0, 0, 0, 0, 0, 0, 0, 0, 0, 0, 0)
	areNoMaps(t, "a row of three bytes, in which all else is right", odd, 65536)
	areNoMaps(t, "a word behind the length", changed(append(slices.Clone(b), 1, 1), [3]int{48, 2, 6}), 999)
}

// P5.5: surrogates have no glyph, but words that are asked for.
func TestFormat4Surrogates(t *testing.T) {
	areMaps(t, "around them", only4([][4]int{{55295, 57344, 65536 - 55290, 0}, {65535, 65535, 1, 0}}), 2055,
		api.Map{Rune: 55295, Glyph: 5}, api.Map{Rune: 57344, Glyph: 2054})
	areMaps(t, "their glyphs are too great", only4([][4]int{{55296, 57343, 0, 0}, {65535, 65535, 1, 0}}), 0)
	areMaps(t, "their words", only4([][4]int{{57343, 57344, 0, 4}, {65535, 65535, 1, 0}}, 999, 1), 2, api.Map{Rune: 57344, Glyph: 1})
}

// anySegments tells segments that rise, and numbers behind them; a few are wrong.
func anySegments(r *rand.Rand) []byte {
	var segments [][4]int
	var behind []int
	for range r.Intn(12) {
		behind = append(behind, r.Intn(9)*r.Intn(2))
	}
	n := 1 + r.Intn(5)
	start := 55280*r.Intn(2) + r.Intn(20)
	for i := range n {
		s := [4]int{start, start + r.Intn(6), 65536 - start + r.Intn(9), 0}
		if r.Intn(2) == 0 {
			s[2], s[3] = r.Intn(3), 2*(n-i)+r.Intn(max(1, 2*len(behind)-8))
		}
		if i == n-1 {
			s[1] = 65535
			s[0] = 65535 - r.Intn(3)
		}
		segments, start = append(segments, s), s[1]+1+r.Intn(5)
	}
	return format4(segments, behind...)
}

// anyGroups tells groups that rise; a few are wrong.
func anyGroups(r *rand.Rand) []byte {
	var groups [][3]int
	first := []int{0, 55290, 65530, 1114100}[r.Intn(4)] + r.Intn(9)
	for range r.Intn(5) {
		g := [3]int{first, first + r.Intn(4), r.Intn(9) * r.Intn(2)}
		groups, first = append(groups, g), g[1]+1+r.Intn(3)
	}
	return format12(groups...)
}

// P5.5: cmaps of both formats, and with numbers changed.
func TestMapsAtRandom(t *testing.T) {
	r := rand.New(rand.NewSource(55))
	right, wrong := 0, 0
	for range 40000 {
		b := cmap(encoded{3, 1, anySegments(r)})
		if r.Intn(2) == 0 {
			b = cmap(encoded{0, r.Intn(2), anyGroups(r)}, encoded{3, 1, anySegments(r)}, encoded{3, 10, anyGroups(r)})
		}
		for range r.Intn(2) * r.Intn(3) {
			at := r.Intn(len(b) - 1)
			b = changed(b, [3]int{at / 2 * 2, 2, r.Intn(20)}, [3]int{at, 1, r.Intn(256) * r.Intn(2)})
		}
		if sameMaps(t, b, []int{8, 9, 20, 65536}[r.Intn(4)]) {
			right++
		} else {
			wrong++
		}
	}
	if right < 5000 || wrong < 5000 {
		t.Errorf("%d right ones, %d wrong", right, wrong)
	}
}

// P5.5: each byte, whatever it is; every length.
func TestMapsOfBytes(t *testing.T) {
	both := cmap(encoded{3, 1, format4([][4]int{{66, 67, 1, 4}, {65535, 65535, 1, 0}}, 3, 4)}, encoded{3, 10, format12([3]int{5, 6, 2}, [3]int{8, 8, 1})})
	only := only4([][4]int{{66, 67, 1, 4}, {65535, 65535, 1, 0}}, 3, 4)
	for _, b := range [][]byte{both, only} {
		for at := range b {
			for n := range 256 {
				sameMaps(t, changed(b, [3]int{at, 1, n}), 6)
			}
		}
		for n := range b {
			sameMaps(t, b[:n], 6)
		}
	}
}

// P5.5: no reader, a bad one, a part of one.
func TestMapsOfNone(t *testing.T) {
	b := only12([3]int{65, 65, 2})
	whole := bin.Open(slices.Concat([]byte{1}, b, []byte{2}))
	part := whole.Part(1, len(b))
	if l, e := sfnt.Maps(part, 9); e != api.OK || !slices.Equal(l, []api.Map{{Rune: 65, Glyph: 2}}) {
		t.Errorf("a part: %v %d", l, e)
	}
	whole.Byte(-1)
	for i, r := range []*bin.Reader{nil, part, new(bin.Reader)} {
		if l, e := sfnt.Maps(r, 9); l != nil || e != api.ErrFont {
			t.Errorf("%d: %v %d", i, l, e)
		}
	}
}
