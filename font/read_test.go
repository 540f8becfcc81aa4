package font_test

import (
	"fmt"
	"maps"
	"reflect"
	"slices"
	"testing"

	"calamus/api"
	"calamus/font"
	"calamus/sfnt"
)

// P9.1: a font with all tables; its fields, one by one.
func TestWhole(t *testing.T) {
	f, e := font.Read(whole().bytes())
	if want := wholeFont(); e != api.OK || !reflect.DeepEqual(f, want) {
		t.Errorf("%+v %d, want %+v", f, e, want)
	}
}

// P9.1: without the tables that may be there.
func TestPlain(t *testing.T) {
	f, e := font.Read(plain().bytes())
	if e != api.OK || len(f.Subs)+len(f.SubFeats)+len(f.Poss)+len(f.PosFeats) != 0 || !slices.Equal(f.Classes, make([]uint8, 10)) {
		t.Errorf("%+v %d", f, e)
	}
	want := wholeFont()
	if f.Units != 1000 || f.Ascent != 800 || f.Descent != -200 || !slices.Equal(f.Advances, want.Advances) || !slices.Equal(f.Maps, want.Maps) {
		t.Errorf("%+v", f)
	}
}

// P9.1: whichever of the eight tables are there.
func TestWhichTables(t *testing.T) {
	names := append(needed(), allowed()...)
	for set := range 1 << len(names) {
		p := whole().with("last", []byte{1})
		for i, name := range names {
			if set>>i&1 == 0 {
				delete(p, name)
			}
		}
		if ok := asLayers(t, fmt.Sprint(slices.Sorted(maps.Keys(p))), p); ok != (set&31 == 31) {
			t.Errorf("%b: %t", set, ok)
		}
	}
}

// P9.1: a table that is there, of no bytes, is as wrong as one that has to be
// there and is not.
func TestTablesOfNoBytes(t *testing.T) {
	for _, name := range append(needed(), allowed()...) {
		isNone(t, name, whole().with(name, nil).bytes())
	}
}

// P9.1: other tables are not looked at, whatever they are called; none of them
// stands for one that is not there.
func TestOtherTables(t *testing.T) {
	p := whole()
	for _, name := range []string{"GDEG", "GPOT", "GSUC", "gsub", "Gsub", "BSUG", "cmaq", "CMAP", "hea\x00", "heae", "OS/2", "glyf", "\x00\x00\x00\x00", "\xFF\xFF\xFF\xFF"} {
		p = p.with(name, []byte{255, 254, 253})
	}
	p = p.with("GSU\x00", nil).with("maxo", nil).with("hheb", nil)
	isThat(t, "others", p.bytes(), wholeFont(), true)
	for _, name := range needed() {
		q := whole().without(name)
		isNone(t, name, q.bytes())
		isNone(t, name, q.with("CMAP", p["cmap"]).with(name[1:]+" ", p[name]).with(" "+name[1:], p[name]).bytes())
	}
	for _, name := range allowed() {
		q := whole().without(name)
		asLayers(t, name, q)
		want, _ := wanted(q)
		isThat(t, name, q.with(name[:3]+" ", p[name]).with("\x00"+name[1:], p[name]).bytes(), want, true)
	}
}

// P9.1: each byte of each table, whatever it is.
func TestEveryByteOfTables(t *testing.T) {
	whole := whole()
	right, none := 0, 0
	for _, name := range append(needed(), allowed()...) {
		body := slices.Clone(whole[name])
		changed := whole.with(name, body)
		for at := range body {
			for n := range 256 {
				body[at] = byte(n)
				if asLayers(t, fmt.Sprintf("%s, %d at %d", name, n, at), changed) {
					right++
				} else {
					none++
				}
			}
			body[at] = whole[name][at]
		}
	}
	if right < 5000 || none < 5000 {
		t.Errorf("%d fonts, %d others", right, none)
	}
}

// P9.1: each table, cut off at every place, or longer.
func TestEveryLengthOfTables(t *testing.T) {
	for _, name := range append(needed(), allowed()...) {
		body := whole()[name]
		for n := range len(body) + 9 {
			p := whole().with(name, append(slices.Clone(body), make([]byte, 9)...)[:n])
			if ok := asLayers(t, fmt.Sprintf("%s, %d bytes", name, n), p); ok && n < len(body) && name != "GPOS" && name != "GSUB" {
				t.Errorf("%s, %d bytes, is right", name, n)
			}
		}
	}
}

// P9.1: both kinds of maxp, both formats of cmap.
func TestFormats(t *testing.T) {
	p := whole()
	p["maxp"] = filled(join(long(65536), block{10}).bytes(), 32)
	isThat(t, "a long maxp", p.bytes(), wholeFont(), true)
	want := wholeFont()
	want.Maps = []api.Map{{Rune: 100, Glyph: 4}, {Rune: 101, Glyph: 5}}
	p["cmap"] = planeMap(100, 101, 4)
	isThat(t, "a cmap of the format 4", p.bytes(), want, true)
	want.Maps = nil
	p["cmap"] = wholeMap()
	isThat(t, "a cmap of no characters", p.bytes(), want, true)
	want.Subs, want.SubFeats, want.Poss, want.PosFeats = nil, nil, nil, nil
	p["GSUB"], p["GPOS"] = lookupTable(nil), lookupTable(nil)
	isThat(t, "tables of no lookups", p.bytes(), want, true)
}

// P9.1: all tables speak of as many glyphs as maxp tells.
func TestSameNumberOfGlyphs(t *testing.T) {
	bodies := map[string]func(g int) []byte{
		"cmap": func(g int) []byte { return wholeMap(65, 65, g) },
		"GDEF": func(g int) []byte { return aGDEF(block{2, 1, g, g, 3}) },
		"GSUB": func(g int) []byte { return lookupTable(nil, lookup(1, 0, block{2, glyphs(0), 1, g})) },
		"GPOS": func(g int) []byte {
			return lookupTable(nil, lookup(2, 0, block{1, glyphs(0), 4, 0, 1, block{1, g, 7}}))
		},
	}
	for _, n := range []int{1, 2, 10, 65535} {
		for _, name := range []string{"cmap", "GDEF", "GSUB", "GPOS"} {
			for _, g := range []int{n - 1, n, 65535} {
				p := plain().with("maxp", aMaxp(n)).with("hhea", anHhea(1, 2, 1)).with("hmtx", anHmtx(n-1, 500)).with("cmap", wholeMap())
				p[name] = bodies[name](g)
				if ok := asLayers(t, name, p); ok != (g < n) {
					t.Errorf("%s, the glyph %d of %d: %t", name, g, n, ok)
				}
			}
		}
	}
}

// P9.1: each byte of a font's file changed, and the file cut off; a byte that is
// in no table, or head's own, may be another one, and so may a name.
func TestEveryByteOfFile(t *testing.T) {
	file := whole().bytes()
	alike := 0
	for at := range file {
		for _, n := range []byte{1, 128, 255} {
			b := slices.Clone(file)
			b[at] ^= n
			want, ok := wantedFile(b)
			isThat(t, fmt.Sprintf("the byte %d", at), b, want, ok)
			if ok && same(want, wholeFont()) {
				alike++
			}
		}
	}
	if alike < 12 {
		t.Errorf("%d are the same font", alike)
	}
	for n := range file {
		want, ok := wantedFile(file[:n])
		isThat(t, fmt.Sprintf("%d bytes", n), file[:n], want, ok)
	}
	isNone(t, "no bytes", nil)
	isNone(t, "an empty list", []byte{})
}

// backward tells the file of tables that stand in it from the last one to the
// first one.
func backward(t *testing.T) []byte {
	t.Helper()
	b := whole().bytes()
	l, e := sfnt.Tables(b)
	if e != api.OK {
		t.Fatal(e)
	}
	c := slices.Clone(b[:12+16*len(l)])
	for i, x := range slices.Backward(l) {
		for len(c)%4 != 0 {
			c = append(c, 77)
		}
		copy(c[12+16*i+8:], long(len(c)).bytes())
		c = append(c, b[x.At:x.At+x.Len]...)
	}
	return c
}

// P9.1: where the tables stand in the file does not matter.
func TestTablesBackward(t *testing.T) {
	b := backward(t)
	isThat(t, "backward", b, wholeFont(), true)
	isNone(t, "a byte less", b[:len(b)-1])
	isThat(t, "bytes behind", append(slices.Clone(b), 1, 2, 3), wholeFont(), true)
}

// P9.1: a sum that is wrong, though the table is right.
func TestSums(t *testing.T) {
	b := whole().bytes()
	l, _ := sfnt.Tables(b)
	for i, x := range l {
		c := slices.Clone(b)
		c[12+16*i+7]++
		isNone(t, "the sum of "+string(x.Tag[:]), c)
	}
}

// P9.1: as many bytes as there may be, and one more.
func TestMostBytes(t *testing.T) {
	b := whole().bytes()
	b = append(b, make([]byte, api.MaxFont+1-len(b))...)
	isThat(t, "MaxFont", b[:api.MaxFont], wholeFont(), true)
	isNone(t, "one more", b)
}

// P9.1: as many glyphs as there may be.
func TestMostGlyphs(t *testing.T) {
	p := whole().with("maxp", aMaxp(65535)).with("hhea", anHhea(1, 2, 65535))
	advances := make([]int, 65535)
	for i := range advances {
		advances[i] = i
	}
	p["hmtx"] = anHmtx(0, advances...)
	p["GDEF"] = aGDEF(block{2, 1, 65534, 65534, 4})
	f, e := font.Read(p.bytes())
	if e != api.OK || len(f.Advances) != 65535 || len(f.Classes) != 65535 {
		t.Fatalf("%d: %d, %d", e, len(f.Advances), len(f.Classes))
	}
	for g := range 65536 {
		advance, class := g, uint8(0)
		if g == 65534 {
			class = 4
		}
		if g == 65535 {
			advance = 0
		}
		if font.Advance(f, uint16(g)) != uint16(advance) || font.Class(f, uint16(g)) != class {
			t.Errorf("%d: %d %d", g, font.Advance(f, uint16(g)), font.Class(f, uint16(g)))
		}
	}
}
