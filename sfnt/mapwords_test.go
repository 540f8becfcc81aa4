package sfnt_test

import (
	"slices"
	"testing"

	"calamus/api"
	"calamus/bin"
	"calamus/sfnt"
)

// pairs is characters and their glyphs, 0 and surrogates' too, in order.
type pairs [][2]int

// maps tells those that count, if all glyphs may be.
func (l pairs) maps(glyphs int) ([]api.Map, bool) {
	var out []api.Map
	for _, x := range l {
		if x[1] == 0 || x[0] >= 55296 && x[0] <= 57343 {
			continue
		}
		if x[1] >= glyphs {
			return nil, false
		}
		out = append(out, api.Map{Rune: rune(x[0]), Glyph: uint16(x[1])})
	}
	return out, true
}

// pairs12 tells the characters of a subtable of the format 12 that begins b.
func pairs12(b []byte) (pairs, bool) {
	groups, ok := numberAt(b, 12, 4)
	if !ok || !is(b, 2, 2, 0) || groups > 65536 || !is(b, 4, 4, 16+12*groups) || len(b) < 16+12*groups {
		return nil, false
	}
	var l pairs
	ahead := -1
	for i := range groups {
		first, _ := numberAt(b, 16+12*i, 4)
		last, _ := numberAt(b, 20+12*i, 4)
		glyph, _ := numberAt(b, 24+12*i, 4)
		if first > last || last > 1114111 || first <= ahead {
			return nil, false
		}
		ahead = last
		for c := first; c <= last; c++ {
			if glyph+c-first > 65535 {
				return nil, false
			}
			l = append(l, [2]int{c, glyph + c - first})
		}
	}
	return l, true
}

// pairs4 tells the characters of a subtable of the format 4 that begins b.
func pairs4(b []byte) (pairs, bool) {
	length, _ := numberAt(b, 2, 2)
	twice, ok := numberAt(b, 6, 2)
	segments := twice / 2
	if !ok || twice < 2 || twice%2 != 0 || length < 16+8*segments || length > len(b) {
		return nil, false
	}
	b = b[:length]
	if !is(b, 14+2*segments, 2, 0) || !is(b, 14+2*(segments-1), 2, 65535) {
		return nil, false
	}
	var l pairs
	ahead := -1
	for i := range segments {
		end, _ := numberAt(b, 14+2*i, 2)
		start, _ := numberAt(b, 16+2*segments+2*i, 2)
		delta, _ := numberAt(b, 16+4*segments+2*i, 2)
		its := 16 + 6*segments + 2*i
		offset, _ := numberAt(b, its, 2)
		if start > end || start <= ahead {
			return nil, false
		}
		ahead = end
		for c := start; c <= end; c++ {
			glyph := (c + delta) % 65536
			if offset != 0 {
				if glyph, ok = numberAt(b, its+offset+2*(c-start), 2); !ok {
					return nil, false
				}
				if glyph != 0 {
					glyph = (glyph + delta) % 65536
				}
			}
			l = append(l, [2]int{c, glyph})
		}
	}
	return l, true
}

// mapsByWords tells what Maps has to answer, as the chapter's words say.
func mapsByWords(b []byte, glyphs int) ([]api.Map, bool) {
	n, ok := numberAt(b, 2, 2)
	if !ok || !is(b, 0, 2, 0) || len(b) < 4+8*n {
		return nil, false
	}
	places := map[[2]int]int{}
	var keys [][2]int
	for i := range n {
		platform, _ := numberAt(b, 4+8*i, 2)
		encoding, _ := numberAt(b, 6+8*i, 2)
		places[[2]int{platform, encoding}], _ = numberAt(b, 8+8*i, 4)
		keys = append(keys, [2]int{platform, encoding})
		if i > 0 && slices.Compare(keys[i-1][:], keys[i][:]) >= 0 {
			return nil, false
		}
	}
	if at, ok := places[[2]int{3, 10}]; ok && is(b, at, 2, 12) {
		l, ok := pairs12(b[at:])
		if !ok {
			return nil, false
		}
		return l.maps(glyphs)
	}
	if at, ok := places[[2]int{3, 1}]; ok && is(b, at, 2, 4) {
		l, ok := pairs4(b[at:])
		if !ok {
			return nil, false
		}
		return l.maps(glyphs)
	}
	return nil, false
}

// sameMaps: does Maps tell what the words say? Tells whether it is a cmap.
func sameMaps(t *testing.T, b []byte, glyphs int) bool {
	t.Helper()
	want, ok := mapsByWords(b, glyphs)
	wrong := api.OK
	if !ok {
		wrong = api.ErrFont
	}
	if l, e := sfnt.Maps(bin.Open(b), glyphs); !slices.Equal(l, want) || e != wrong || e != api.OK && l != nil {
		t.Fatalf("%d, %d glyphs: %d maps, %d, want %d, %d", b[:min(len(b), 200)], glyphs, len(l), e, len(want), wrong)
	}
	return ok
}

func areMaps(t *testing.T, what string, b []byte, glyphs int, want ...api.Map) {
	t.Helper()
	if l, e := sfnt.Maps(bin.Open(b), glyphs); e != api.OK || !slices.Equal(l, want) {
		t.Errorf("%s: %v %d, want %v", what, l, e, want)
	}
}

func areNoMaps(t *testing.T, what string, b []byte, glyphs int) {
	t.Helper()
	if l, e := sfnt.Maps(bin.Open(b), glyphs); e != api.ErrFont || l != nil {
		t.Errorf("%s: %v %d, want ErrFont", what, l, e)
	}
}

// encoded is a subtable, and what it is for.
type encoded struct {
	platform, encoding int
	subtable           []byte
}

// cmap tells the bytes of a cmap.
func cmap(l ...encoded) []byte {
	b, at := put("WW", 0, len(l)), 4+8*len(l)
	for _, x := range l {
		b = append(b, put("WWL", x.platform, x.encoding, at)...)
		at += len(x.subtable)
	}
	for _, x := range l {
		b = append(b, x.subtable...)
	}
	return b
}

// format12 tells a subtable of groups: first, last, glyph.
func format12(groups ...[3]int) []byte {
	b := put("WWLLL", 12, 0, 16+12*len(groups), -1, len(groups))
	for _, g := range groups {
		b = append(b, put("LLL", g[0], g[1], g[2])...)
	}
	return b
}

// format4 tells a subtable of segments: start, end, delta, offset; and behind
// them these numbers.
func format4(segments [][4]int, behind ...int) []byte {
	n := len(segments)
	b := put("WWWWWWW", 4, 16+8*n+2*len(behind), -1, 2*n, -1, -1, -1)
	for _, column := range []int{1, 0, 2, 3} {
		for _, s := range segments {
			b = append(b, put("W", s[column])...)
		}
		if column == 1 {
			b = append(b, 0, 0)
		}
	}
	for _, n := range behind {
		b = append(b, put("W", n)...)
	}
	return b
}

func only12(groups ...[3]int) []byte { return cmap(encoded{3, 10, format12(groups...)}) }

func only4(segments [][4]int, behind ...int) []byte {
	return cmap(encoded{3, 1, format4(segments, behind...)})
}
