package gpos_test

import (
	"testing"

	"calamus/api"
	"calamus/bin"
	"calamus/gpos"
)

// kernsOf tells the subtable of these numbers, three by three.
func kernsOf(l ...int) api.Pos {
	var p api.Pos
	for i := 0; i < len(l); i += 3 {
		p.Kerns = append(p.Kerns, api.Kern{A: uint16(l[i]), B: uint16(l[i+1]), X: int16(l[i+2])})
	}
	return p
}

// mark tells one.
func mark(glyph, class uint16, x, y int16) api.Mark {
	return api.Mark{Glyph: glyph, Class: class, X: x, Y: y}
}

// base tells one.
func base(glyph uint16, l ...api.Anchor) api.Base { return api.Base{Glyph: glyph, Anchors: l} }

// at tells a point that is there.
func at(x, y int16) api.Anchor { return api.Anchor{Has: true, X: x, Y: y} }

// P8.1: the chapter's examples.
func TestExamples(t *testing.T) {
	isPos(t, "type 2", 2, block{1, 12, 4, 0, 1, 18, 1, 1, 5, 1, 6, 65486}, kernsOf(5, 6, -50))
	isPos(t, "type 4", 4, block{1, 12, 18, 1, 24, 36, 1, 1, 7, 1, 1, 3, 1, 0, 6, 1, 100, 200, 1, 4, 1, 10, 20},
		api.Pos{Marks: []api.Mark{mark(7, 0, 100, 200)}, Bases: []api.Base{base(3, at(10, 20))}})
}

// P8.1, P8.3: the type 2.
func TestKerns(t *testing.T) {
	isPos(t, "two rows", 2, kerns(glyphs(3, 7), seconds(0, 1, 4, -1, 9, 0), seconds(2, 5)), kernsOf(3, 0, 1, 3, 4, -1, 3, 9, 0, 7, 2, 5))
	isPos(t, "a range", 2, kerns(span(3, 5), seconds(1, 8), seconds(1, 9), seconds(0, 10, 1, 11)), kernsOf(3, 1, 8, 4, 1, 9, 5, 0, 10, 5, 1, 11))
	isPos(t, "how much there can be", 2, kerns(glyphs(0), seconds(0, -32768, 1, 32767, 2, 32768, 3, 65535)), kernsOf(0, 0, -32768, 0, 1, 32767, 0, 2, -32768, 0, 3, -1))
	isPos(t, "rows at one place", 2, block{1, 14, 4, 0, 2, 22, 22, 1, 2, 4, 5, 1, 6, 7}, kernsOf(4, 6, 7, 5, 6, 7))
	isPos(t, "rows that share", 2, block{1, 14, 4, 0, 2, 22, 24, 1, 2, 4, 5, 2, 1, 1, 2, 9}, kernsOf(4, 1, 1, 4, 2, 9, 5, 1, 2))
	isPos(t, "more behind", 2, block{1, 12, 4, 0, 1, 18, 1, 1, 5, 1, 6, 3, 9, 9}, kernsOf(5, 6, 3))
}

// P8.1: what is wrong of the type 2.
func TestKernsWrong(t *testing.T) {
	isNoPos(t, "a row of none", 2, kerns(glyphs(3, 7), seconds(1, 1), seconds()))
	isNoPos(t, "a first row of none", 2, kerns(glyphs(3, 7), seconds(), seconds(1, 1)))
	isNoPos(t, "a row less", 2, kerns(glyphs(3, 7), seconds(1, 1)))
	isNoPos(t, "a row more", 2, kerns(glyphs(3, 7), seconds(1, 1), seconds(1, 1), seconds(1, 1)))
	isNoPos(t, "no rows", 2, kerns(glyphs(3, 7)))
	isNoPos(t, "of no glyphs", 2, kerns(glyphs()))
	isNoPos(t, "a glyph twice", 2, kerns(glyphs(3), seconds(1, 1, 1, 2)))
	isNoPos(t, "a glyph twice, later", 2, kerns(glyphs(3), seconds(0, 1, 1, 2, 1, 2)))
	isNoPos(t, "a row that falls", 2, kerns(glyphs(3), seconds(2, 1, 1, 2)))
	isNoPos(t, "a later row that falls", 2, kerns(glyphs(3, 4), seconds(1, 1), seconds(0, 1, 5, 2, 4, 3)))
	isNoPos(t, "0 behind another one", 2, kerns(glyphs(3), seconds(1, 1, 0, 2)))
	isNoPos(t, "a glyph that is not right", 2, kerns(glyphs(3), seconds(10, 1)))
	isNoPos(t, "a later one that is not right", 2, kerns(glyphs(3, 4), seconds(1, 1), seconds(2, 2, 65535, 2)))
	isNoPos(t, "a glyph of the coverage that is not right", 2, kerns(glyphs(3, 10), seconds(1, 1), seconds(1, 1)))
	isNoPos(t, "a coverage that falls", 2, kerns(glyphs(3, 2), seconds(1, 1), seconds(1, 1)))
	isNoPos(t, "a row that is cut off", 2, kerns(glyphs(3), block{2, 1, 1, 2}))
	isNoPos(t, "a row of half a pair", 2, kerns(glyphs(3), block{1, 1}))
	isNoPos(t, "a row that is nowhere", 2, block{1, glyphs(3), 4, 0, 1, 500})
	isNoPos(t, "no coverage there", 2, block{1, 500, 4, 0, 1, 12, 1, 1, 1})
	for n := range 12 {
		isNoPos(t, "cut off", 2, block{1, 12, 4, 0, 1, 18, 1, 1, 5, 1, 6, 3}[:n])
	}
	for _, n := range []int{0, 1, 2, 3, 5, 8, 12, 255, 256, 260, 1024, 65531, 65535} {
		x := kerns(glyphs(3), seconds(1, 1))
		x[2] = n
		isNoPos(t, "of the first glyph something else", 2, x)
		x[2], x[3] = 4, max(n, 1)
		isNoPos(t, "of the second glyph something", 2, x)
		x[2], x[3] = 0, 4
		isNoPos(t, "the other way round", 2, x)
	}
}

// P8.1, P8.3: the types 4 and 6.
func TestAttached(t *testing.T) {
	for _, kind := range []int{4, 6} {
		isPos(t, "two classes", kind, attach(glyphs(2, 8), glyphs(1, 9), 2, marks(1, point(1, -2), 0, point(-32768, 32767)), bases(2, point(3, 4), point(-5, -6), 0, point(0, 0))),
			api.Pos{Marks: []api.Mark{mark(2, 1, 1, -2), mark(8, 0, -32768, 32767)}, Bases: []api.Base{base(1, at(3, 4), at(-5, -6)), base(9, api.Anchor{}, at(0, 0))}})
		isPos(t, "classes without marks", kind, attach(glyphs(2), glyphs(1), 4, marks(2, point(1, 1)), bases(4, 0, 0, 0, point(7, 8))),
			api.Pos{Marks: []api.Mark{mark(2, 2, 1, 1)}, Bases: []api.Base{base(1, api.Anchor{}, api.Anchor{}, api.Anchor{}, at(7, 8))}})
		isPos(t, "no points", kind, attach(span(2, 3), span(2, 3), 1, marks(0, point(1, 1), 0, point(2, 2)), bases(1, 0, 0)),
			api.Pos{Marks: []api.Mark{mark(2, 0, 1, 1), mark(3, 0, 2, 2)}, Bases: []api.Base{base(2, api.Anchor{}), base(3, api.Anchor{})}})
		isPos(t, "points at one place", kind, block{1, 12, 12, 1, 20, 30, 1, 2, 4, 5, 2, 0, 16, 0, 16, 2, 6, 6, 1, 3, 65535},
			api.Pos{Marks: []api.Mark{mark(4, 0, 3, -1), mark(5, 0, 3, -1)}, Bases: []api.Base{base(4, at(3, -1)), base(5, at(3, -1))}})
		isPos(t, "a mark's point at 0", kind, block{1, 12, 12, 3, 18, 24, 1, 1, 4, 1, 2, 0, 1, 0, 0, 0},
			api.Pos{Marks: []api.Mark{mark(4, 2, 2, 0)}, Bases: []api.Base{base(4, api.Anchor{}, api.Anchor{}, api.Anchor{})}})
		isPos(t, "points at an odd place", kind, block{1, 12, 12, 1, 18, 24, 1, 1, 4, 1, 0, 11, 1, 5, 0x0900, 0x01FF, 0xFE00, 0x0500},
			api.Pos{Marks: []api.Mark{mark(4, 0, -2, 5)}, Bases: []api.Base{base(4, at(-2, 5))}})
		isPos(t, "more behind", kind, block{1, 12, 18, 1, 24, 36, 1, 1, 7, 1, 1, 3, 1, 0, 6, 1, 100, 200, 1, 4, 1, 10, 20, 1, 1},
			api.Pos{Marks: []api.Mark{mark(7, 0, 100, 200)}, Bases: []api.Base{base(3, at(10, 20))}})
	}
}

// P8.1: what is wrong of the types 4 and 6.
func TestAttachedWrong(t *testing.T) {
	p := point(1, 1)
	m, b, one := marks(0, p), bases(1, p), glyphs(4)
	for _, kind := range []int{4, 6} {
		isNoPos(t, "no classes", kind, attach(one, one, 0, m, bases(1, 0)))
		isNoPos(t, "a class that is none", kind, attach(one, one, 1, marks(1, p), b))
		isNoPos(t, "a later class that is none", kind, attach(span(4, 5), one, 3, marks(2, p, 3, p), bases(3, p, p, p)))
		isNoPos(t, "class 65535", kind, attach(one, one, 2, marks(65535, p), bases(2, p, p)))
		isNoPos(t, "a mark less", kind, attach(span(4, 5), one, 1, m, b))
		isNoPos(t, "a mark more", kind, attach(one, one, 1, marks(0, p, 0, p), b))
		isNoPos(t, "no marks", kind, attach(one, one, 1, marks(), b))
		isNoPos(t, "a base less", kind, attach(one, span(4, 5), 1, m, b))
		isNoPos(t, "a base more", kind, attach(one, one, 1, m, bases(1, p, p)))
		isNoPos(t, "no bases", kind, attach(one, one, 1, m, bases(1)))
		isNoPos(t, "a point less than classes", kind, attach(one, one, 1000, m, b))
		isNoPos(t, "marks that are cut off", kind, block{1, one, one, 1, b, block{1, 0}})
		isNoPos(t, "marks that are nowhere", kind, block{1, one, one, 1, 500, b})
		isNoPos(t, "bases that are nowhere", kind, block{1, one, one, 1, m, 500})
		for _, wrong := range []block{glyphs(), glyphs(10), glyphs(3, 3), glyphs(3, 2), {0, 1, 1}, {3, 1, 1}, span(5, 4)} {
			isNoPos(t, "marks of such a coverage", kind, attach(wrong, one, 1, marks(0, p, 0, p), b))
			isNoPos(t, "a mark of such a coverage", kind, attach(wrong, one, 1, m, b))
			isNoPos(t, "bases of such a coverage", kind, attach(one, wrong, 1, m, bases(1, p, p)))
			isNoPos(t, "a base of such a coverage", kind, attach(one, wrong, 1, m, b))
		}
		isNoPos(t, "a coverage of the marks that is nowhere", kind, block{1, 500, one, 1, m, b})
		isNoPos(t, "a coverage of the bases that is nowhere", kind, block{1, one, 500, 1, m, b})
	}
}

// P8.1: points that are none, of the types 4 and 6.
func TestPointsWrong(t *testing.T) {
	p, one := point(1, 1), glyphs(4)
	for _, kind := range []int{4, 6} {
		for _, format := range []int{0, 2, 3, 256, 257, 513, 65535} {
			wrong := block{format, 1, 1}
			isNoPos(t, "a mark's point of another format", kind, attach(one, one, 1, marks(0, wrong), bases(1, p)))
			isNoPos(t, "a base's", kind, attach(one, one, 1, marks(0, p), bases(1, wrong)))
			isNoPos(t, "a later base's", kind, attach(one, span(4, 5), 2, marks(0, p), bases(2, p, 0, p, wrong)))
		}
		for n := range 3 {
			isNoPos(t, "a base's point that is cut off", kind, attach(one, one, 1, marks(0, p), bases(1, p[:n:n])))
			isNoPos(t, "a mark's point that is cut off", kind, block{1, 12, 12, 1, 22, 18, 1, 1, 4, 1, 0, 1, 0, 6, 1, 5, 6}[:14+n])
		}
		isNoPos(t, "a mark's point that is nowhere", kind, attach(one, one, 1, marks(0, 500), bases(1, p)))
		isNoPos(t, "a base's point that is nowhere", kind, attach(one, one, 1, marks(0, p), bases(1, 500)))
		for n := range 22 {
			isNoPos(t, "cut off", kind, block{1, 12, 18, 1, 24, 36, 1, 1, 7, 1, 1, 3, 1, 0, 6, 1, 100, 200, 1, 4, 1, 10, 20}[:n])
		}
	}
}

// P8.1: another first W than 1, of each type.
func TestOtherFormats(t *testing.T) {
	for _, format := range []int{0, 2, 3, 4, 255, 256, 257, 32769, 65535} {
		isNoPos(t, "type 2", 2, append(block{format}, kerns(glyphs(3), seconds(1, 1))[1:]...))
		for _, kind := range []int{4, 6} {
			isNoPos(t, "types 4 and 6", kind, append(block{format}, attach(glyphs(4), glyphs(3), 1, marks(0, point(1, 1)), bases(1, 0))[1:]...))
		}
	}
}

// P8.1: types that are none, whatever the subtable is like; and one that is like
// the other kind.
func TestOtherTypes(t *testing.T) {
	pair, both := kerns(glyphs(3), seconds(1, 1)), attach(glyphs(4), glyphs(3), 1, marks(0, point(1, 1)), bases(1, 0))
	for _, kind := range []int{0, 1, 3, 5, 7, 8, 9, 10, 255, 256, 258, 260, 262, 32770, 65535} {
		for _, sub := range []block{pair, both, {1}} {
			isNoPos(t, "another type", kind, sub)
		}
	}
	isNoPos(t, "type 2 like the type 4", 2, both)
	isNoPos(t, "type 4 like the type 2", 4, pair)
	isNoPos(t, "type 6 like the type 2", 6, pair)
}

// P8.1: parts of a subtable that share bytes with its beginning.
func TestSharedBytes(t *testing.T) {
	// The row is the subtable's beginning: 1, the glyph 12, 4.
	l, _, e := gpos.Parse(bin.Open(only(2, block{1, 12, 4, 0, 1, 0, 1, 1, 8})), 13)
	if e != api.OK || !samePos(l[0].Poss[0], kernsOf(8, 12, 4)) {
		t.Errorf("a row: %v %d", l, e)
	}
	isPos(t, "one list of marks and of bases", 4, block{1, 12, 12, 2, 18, 18, 1, 1, 4, 1, 0, 6, 1, 5, 6},
		api.Pos{Marks: []api.Mark{mark(4, 0, 5, 6)}, Bases: []api.Base{base(4, api.Anchor{}, at(5, 6))}})
}
