package font_test

import (
	"fmt"
	"maps"
	"reflect"
	"slices"
	"testing"

	"calamus/api"
	"calamus/bin"
	"calamus/cover"
	"calamus/font"
	"calamus/gpos"
	"calamus/gsub"
	"calamus/sfnt"
)

// block is numbers of two bytes each, and blocks: of one of these the place,
// from this one's beginning, stands there, and its bytes behind.
type block []any

// bytes tells the bytes of a block.
func (x block) bytes() []byte {
	var head, tail []byte
	for _, item := range x {
		n, ok := item.(int)
		if !ok {
			n = 2*len(x) + len(tail)
			tail = append(tail, item.(block).bytes()...)
		}
		head = append(head, byte(n>>8), byte(n))
	}
	return append(head, tail...)
}

// items tells a block of these.
func items[T any](l ...T) block {
	var x block
	for _, item := range l {
		x = append(x, item)
	}
	return x
}

// row tells a block that begins with how many there are.
func row[T any](l ...T) block { return append(block{len(l)}, items(l...)...) }

// join tells a block of the items of all of them.
func join(l ...block) block { return slices.Concat(l...) }

// glyphs tells a coverage.
func glyphs(l ...int) block { return join(block{1}, row(l...)) }

// lookup tells a lookup of subtables.
func lookup(kind, flag int, subs ...block) block { return join(block{kind, flag}, row(subs...)) }

// feature tells the numbers of a record of four letters, and what it points to.
func feature(name string, lookups ...int) block {
	return block{int(name[0])<<8 + int(name[1]), int(name[2])<<8 + int(name[3]), join(block{0}, row(lookups...))}
}

// lookupTable tells a GSUB, or a GPOS.
func lookupTable(features []block, lookups ...block) []byte {
	return block{1, 0, 0, join(block{len(features)}, join(features...)), row(lookups...)}.bytes()
}

// long tells a number of four bytes as two of two.
func long(n int) block { return block{n >> 16, n & 65535} }

// wholeMap tells a cmap of the format 12, of groups of first, last, glyph.
func wholeMap(groups ...int) []byte {
	x := join(block{0, 1, 3, 10}, long(12), block{12, 0}, long(16+4*len(groups)), long(0), long(len(groups)/3))
	for _, n := range groups {
		x = join(x, long(n))
	}
	return x.bytes()
}

// planeMap tells a cmap of the format 4, of one segment beside the last one.
func planeMap(first, last, glyph int) []byte {
	return join(block{0, 1, 3, 1}, long(12), block{4, 32, 0, 4, 0, 0, 0, last, 65535, 0, first, 65535, (glyph - first) & 65535, 1, 0, 0}).bytes()
}

// filled tells bytes, and noughts behind them, up to that size.
func filled(b []byte, size int) []byte { return append(b, make([]byte, size-len(b))...) }

// aHead tells a table head of so many units.
func aHead(units int) []byte {
	return filled(join(long(65536), long(7), long(0), long(1594834165), block{0, units}).bytes(), 54)
}

// anHhea tells an hhea.
func anHhea(ascent, descent, measured int) []byte {
	b := filled(join(long(65536), block{ascent, descent & 65535}).bytes(), 36)
	b[34], b[35] = byte(measured>>8), byte(measured)
	return b
}

// aMaxp tells a maxp of the first kind.
func aMaxp(glyphs int) []byte { return join(long(20480), block{glyphs}).bytes() }

// anHmtx tells an hmtx of these advances, and of more glyphs without one.
func anHmtx(more int, advances ...int) []byte {
	var x block
	for i, n := range advances {
		x = append(x, n, 100+i)
	}
	return filled(x.bytes(), 4*len(advances)+2*more)
}

// aGDEF tells a GDEF of these classes.
func aGDEF(classes block) []byte { return block{1, 0, classes, 9, 9, 9}.bytes() }

// point tells a point of a glyph.
func point(x, y int) block { return block{1, x, y} }

// parts are the bytes of a font's tables, by their names.
type parts map[string][]byte

// with tells parts of which one is another one.
func (p parts) with(name string, body []byte) parts {
	q := maps.Clone(p)
	q[name] = body
	return q
}

// without tells parts of which some are not there.
func (p parts) without(names ...string) parts {
	q := maps.Clone(p)
	for _, name := range names {
		delete(q, name)
	}
	return q
}

// bytes tells the bytes of a font of these tables.
func (p parts) bytes() []byte {
	var tags []api.Tag
	var bodies [][]byte
	for _, name := range slices.Sorted(maps.Keys(p)) {
		tags, bodies = append(tags, api.Tag([]byte(name))), append(bodies, p[name])
	}
	b, e := sfnt.Join(tags, bodies)
	if e != api.OK {
		panic(e)
	}
	return b
}

// needed, allowed are the names of the tables that have to be there, that may be.
func needed() []string  { return []string{"cmap", "head", "hhea", "hmtx", "maxp"} }
func allowed() []string { return []string{"GDEF", "GPOS", "GSUB"} }

// plain tells the tables that have to be there, of ten glyphs.
func plain() parts {
	return parts{
		"cmap": wholeMap(65, 67, 1, 0x5D0, 0x5D0, 5, 0x1F600, 0x1F601, 8),
		"head": aHead(1000),
		"hhea": anHhea(800, -200, 4),
		"hmtx": anHmtx(6, 500, 600, 700, 0),
		"maxp": aMaxp(10),
	}
}

// whole tells tables of all eight names, of ten glyphs.
func whole() parts {
	p := plain()
	p["GDEF"] = aGDEF(block{2, 3, 1, 2, 1, 5, 5, 2, 8, 9, 3})
	p["GSUB"] = lookupTable([]block{feature("liga", 2, 0), feature("ccmp", 1)},
		lookup(1, 8, block{1, glyphs(1, 2), 6}),
		lookup(2, 0, block{1, glyphs(4), 1, row(5, 6)}),
		lookup(4, 2, block{1, glyphs(1), 1, row(block{7, 2, 9})}))
	marks, bases := block{1, 0, point(-1&65535, 2)}, block{2, 0, point(3, 4)}
	p["GPOS"] = lookupTable([]block{feature("mark", 1), feature("kern", 0)},
		lookup(2, 0, block{1, glyphs(1), 4, 0, 1, block{1, 2, -50 & 65535}}),
		lookup(4, 4, block{1, glyphs(8), glyphs(1, 2), 1, marks, bases}))
	return p
}

// wholeFont is what the tables of whole are as one font.
func wholeFont() api.Font {
	return api.Font{
		Units:    1000,
		Ascent:   800,
		Descent:  -200,
		Advances: []uint16{500, 600, 700, 0, 0, 0, 0, 0, 0, 0},
		Classes:  []uint8{0, 1, 1, 0, 0, 2, 0, 0, 3, 3},
		Maps:     []api.Map{{Rune: 65, Glyph: 1}, {Rune: 66, Glyph: 2}, {Rune: 67, Glyph: 3}, {Rune: 0x5D0, Glyph: 5}, {Rune: 0x1F600, Glyph: 8}, {Rune: 0x1F601, Glyph: 9}},
		Subs: []api.Lookup{
			{Type: 1, Flag: 8, Subs: []api.Sub{{Pairs: []api.Pair{{From: 1, To: 7}, {From: 2, To: 8}}}}},
			{Type: 2, Subs: []api.Sub{{Manys: []api.Many{{From: 4, To: []uint16{5, 6}}}}}},
			{Type: 4, Flag: 2, Subs: []api.Sub{{Ligs: []api.Lig{{Parts: []uint16{1, 9}, To: 7}}}}},
		},
		SubFeats: []api.Feature{{Tag: api.Tag{'l', 'i', 'g', 'a'}, Lookups: []int{0, 2}}, {Tag: api.Tag{'c', 'c', 'm', 'p'}, Lookups: []int{1}}},
		Poss: []api.Lookup{
			{Type: 2, Poss: []api.Pos{{Kerns: []api.Kern{{A: 1, B: 2, X: -50}}}}},
			{Type: 4, Flag: 4, Poss: []api.Pos{{
				Marks: []api.Mark{{Glyph: 8, X: -1, Y: 2}},
				Bases: []api.Base{{Glyph: 1, Anchors: []api.Anchor{{}}}, {Glyph: 2, Anchors: []api.Anchor{{Has: true, X: 3, Y: 4}}}},
			}}},
		},
		PosFeats: []api.Feature{{Tag: api.Tag{'m', 'a', 'r', 'k'}, Lookups: []int{1}}, {Tag: api.Tag{'k', 'e', 'r', 'n'}, Lookups: []int{0}}},
	}
}

// told tells a font as a text, in which no list is as good as an empty one.
func told(f api.Font) string { return fmt.Sprintf("%+v", f) }

// same: are two fonts alike? No list is as good as an empty one.
func same(a, b api.Font) bool { return reflect.DeepEqual(a, b) || told(a) == told(b) }

// wanted tells what these tables are as one font, by the layers below; false, if
// they are none.
func wanted(p parts) (f api.Font, ok bool) {
	for _, name := range needed() {
		if _, there := p[name]; !there {
			return api.Font{}, false
		}
	}
	var l [5]api.Errno
	f.Units, l[0] = sfnt.Head(bin.Open(p["head"]))
	f.Advances, f.Ascent, f.Descent, l[1] = sfnt.Widths(bin.Open(p["maxp"]), bin.Open(p["hhea"]), bin.Open(p["hmtx"]))
	n := len(f.Advances)
	f.Maps, l[2] = sfnt.Maps(bin.Open(p["cmap"]), n)
	if b, there := p["GSUB"]; there {
		f.Subs, f.SubFeats, l[3] = gsub.Parse(bin.Open(b), n)
	}
	if b, there := p["GPOS"]; there {
		f.Poss, f.PosFeats, l[4] = gpos.Parse(bin.Open(b), n)
	}
	f.Classes, ok = wantedClasses(p, n)
	if !ok || l != [5]api.Errno{} {
		return api.Font{}, false
	}
	return f, true
}

// wantedClasses tells the classes that a GDEF tells, if there is one.
func wantedClasses(p parts, n int) ([]uint8, bool) {
	b, there := p["GDEF"]
	if !there {
		return make([]uint8, n), true
	}
	if len(b) < 12 || b[0] != 0 || b[1] != 1 || b[2] != 0 || b[3] != 0 && b[3] != 2 && b[3] != 3 {
		return nil, false
	}
	at := 256*int(b[4]) + int(b[5])
	if at == 0 {
		return make([]uint8, n), true
	}
	l, e := cover.Classes(bin.Open(b), at, n)
	return l, e == api.OK
}

// wantedFile tells what these bytes are as one font, by the layers below.
func wantedFile(b []byte) (api.Font, bool) {
	l, e := sfnt.Tables(b)
	p := parts{}
	for _, x := range l {
		p[string(x.Tag[:])] = b[x.At : x.At+x.Len]
	}
	f, ok := wanted(p)
	return f, ok && e == api.OK
}

// isThat: does Read tell that font of these bytes, if they are one, and else that
// there is none?
func isThat(t *testing.T, what string, b []byte, want api.Font, ok bool) {
	t.Helper()
	wrong := api.OK
	if !ok {
		want, wrong = api.Font{}, api.ErrFont
	}
	if f, e := font.Read(b); e != wrong || !same(f, want) {
		t.Fatalf("%s: %d, %.500s, want %d, %.500s", what, e, told(f), wrong, told(want))
	}
}

// isNone: are these bytes no font?
func isNone(t *testing.T, what string, b []byte) {
	t.Helper()
	isThat(t, what, b, api.Font{}, false)
}

// asLayers: does Read tell what the layers below tell of these tables? Tells
// whether they are a font.
func asLayers(t *testing.T, what string, p parts) bool {
	t.Helper()
	want, ok := wanted(p)
	isThat(t, what, p.bytes(), want, ok)
	return ok
}
