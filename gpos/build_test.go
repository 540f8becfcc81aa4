package gpos_test

import (
	"reflect"
	"slices"
	"testing"

	"calamus/api"
	"calamus/bin"
	"calamus/gpos"
)

// block is numbers of two bytes each, and blocks: of one of these the place,
// from this one's beginning, stands there, and its bytes behind.
type block []any

// bytes tells the bytes of a block.
func (x block) bytes() []byte {
	var head, tail []byte
	for _, item := range x {
		n, ok := item.(int)
		if !ok {
			n = 2*len(x) + len(tail)
			tail = append(tail, item.(block).bytes()...)
		}
		head = append(head, byte(n>>8), byte(n))
	}
	return append(head, tail...)
}

// items tells a block of these.
func items[T any](l ...T) block {
	var x block
	for _, item := range l {
		x = append(x, item)
	}
	return x
}

// row tells a block that begins with how many there are.
func row[T any](l ...T) block { return append(block{len(l)}, items(l...)...) }

// join tells a block of the items of all of them.
func join(l ...block) block { return slices.Concat(l...) }

// glyphs tells a coverage of the format 1.
func glyphs(l ...int) block { return join(block{1}, row(l...)) }

// span tells a coverage of the format 2, from a glyph to another.
func span(first, last int) block { return block{2, 1, first, last, 0} }

// seconds tells a row of glyphs and what each adds, two by two.
func seconds(l ...int) block { return join(block{len(l) / 2}, items(l...)) }

// kerns tells a subtable of the type 2, of a row for each glyph of the coverage.
func kerns(c block, rows ...block) block { return join(block{1, c, 4, 0}, row(rows...)) }

// point tells a point.
func point(x, y int) block { return block{1, x, y} }

// marks tells a list of marks: classes and points, two by two.
func marks(l ...any) block { return join(block{len(l) / 2}, l) }

// bases tells a list of bases: n points or noughts for each of them.
func bases(n int, l ...any) block { return join(block{len(l) / n}, l) }

// attach tells a subtable of the types 4 and 6.
func attach(m, b block, n int, marks, bases block) block { return block{1, m, b, n, marks, bases} }

// lookup tells a lookup of subtables.
func lookup(kind, flag int, subs ...block) block { return join(block{kind, flag}, row(subs...)) }

// feature tells the numbers of a record of four letters, and what it points to.
func feature(name string, lookups ...int) block {
	return block{int(name[0])<<8 + int(name[1]), int(name[2])<<8 + int(name[3]), join(block{0}, row(lookups...))}
}

// table tells a table of features, and of lookups.
func table(features []block, lookups ...block) block {
	return block{1, 0, 77, join(block{len(features)}, join(features...)), row(lookups...)}
}

// only tells the bytes of a table of one lookup, of one subtable, and nothing else.
func only(kind int, sub block) []byte { return table(nil, lookup(kind, 0, sub)).bytes() }

// sameAnswer: are two answers alike? No list is as good as an empty one.
func sameAnswer(a, b api.Lookup) bool {
	return a.Type == b.Type && a.Flag == b.Flag && len(a.Subs)+len(b.Subs) == 0 && slices.EqualFunc(a.Poss, b.Poss, samePos)
}

func samePos(a, b api.Pos) bool {
	base := func(a, b api.Base) bool { return a.Glyph == b.Glyph && slices.Equal(a.Anchors, b.Anchors) }
	return slices.Equal(a.Kerns, b.Kerns) && slices.Equal(a.Marks, b.Marks) && slices.EqualFunc(a.Bases, b.Bases, base)
}

func sameFeature(a, b api.Feature) bool {
	return a.Tag == b.Tag && slices.Equal(a.Lookups, b.Lookups)
}

// isPos: is that subtable, of ten glyphs, told so, and does the reader stay as
// it was?
func isPos(t *testing.T, what string, kind int, sub block, want api.Pos) {
	t.Helper()
	b := only(kind, sub)
	r := bin.Open(b)
	l, features, e := gpos.Parse(r, 10)
	if e != api.OK || len(features) != 0 || len(l) != 1 || !sameAnswer(l[0], api.Lookup{Type: uint16(kind), Poss: []api.Pos{want}}) {
		t.Errorf("%s: %v %v %d, want %v", what, l, features, e, want)
	}
	if r.Bad() || !slices.Equal(r.Bytes(), b) {
		t.Errorf("%s: the reader is changed: %d, bad %t", what, r.Bytes(), r.Bad())
	}
}

// isNone: is a table wrong, of so many glyphs?
func isNone(t *testing.T, what string, b []byte, glyphs int) {
	t.Helper()
	if l, features, e := gpos.Parse(bin.Open(b), glyphs); e != api.ErrFont || l != nil || features != nil {
		t.Errorf("%s: %d lookups, %v, %d, want ErrFont", what, len(l), features, e)
	}
}

// isNoPos: is that subtable wrong, of ten glyphs?
func isNoPos(t *testing.T, what string, kind int, sub block) {
	t.Helper()
	isNone(t, what, only(kind, sub), 10)
}

// isTable: is a table of ten glyphs right? Tells its answer.
func isTable(t *testing.T, what string, b []byte) ([]api.Lookup, []api.Feature) {
	t.Helper()
	l, features, e := gpos.Parse(bin.Open(b), 10)
	if e != api.OK {
		t.Errorf("%s: %d", what, e)
	}
	return l, features
}

// everyType tells a table of a lookup of each type, and of features.
func everyType() block {
	top := attach(glyphs(7, 9), span(3, 4), 2, marks(1, point(-5, 6), 0, point(300, -300)),
		bases(2, point(1, 2), 0, point(-1, 32767), point(3, -32768)))
	below := attach(glyphs(8), glyphs(7, 9), 1, marks(0, point(0, 0)), bases(1, 0, point(0, 5)))
	return table([]block{feature("mark", 1, 0, 1), feature("kern", 3)},
		lookup(2, 9, kerns(glyphs(2, 5), seconds(0, -50, 9, 7), seconds(2, 0))),
		lookup(4, 2, top, below),
		lookup(6, 0, below),
		lookup(2, 4, kerns(glyphs(5), seconds(6, 1)), kerns(span(5, 6), seconds(6, 2), seconds(5, -32768, 6, 32767))))
}

// everyAnswer is what everyType tells.
func everyAnswer() ([]api.Lookup, []api.Feature) {
	below := func() api.Pos {
		return api.Pos{Marks: []api.Mark{{Glyph: 8}}, Bases: []api.Base{{Glyph: 7, Anchors: []api.Anchor{{}}}, {Glyph: 9, Anchors: []api.Anchor{{Has: true, Y: 5}}}}}
	}
	return []api.Lookup{
		{Type: 2, Flag: 8, Poss: []api.Pos{{Kerns: []api.Kern{{A: 2, B: 0, X: -50}, {A: 2, B: 9, X: 7}, {A: 5, B: 2}}}}},
		{Type: 4, Flag: 2, Poss: []api.Pos{
			{
				Marks: []api.Mark{{Glyph: 7, Class: 1, X: -5, Y: 6}, {Glyph: 9, X: 300, Y: -300}},
				Bases: []api.Base{
					{Glyph: 3, Anchors: []api.Anchor{{Has: true, X: 1, Y: 2}, {}}},
					{Glyph: 4, Anchors: []api.Anchor{{Has: true, X: -1, Y: 32767}, {Has: true, X: 3, Y: -32768}}},
				},
			},
			below(),
		}},
		{Type: 6, Poss: []api.Pos{below()}},
		{Type: 2, Flag: 4, Poss: []api.Pos{
			{Kerns: []api.Kern{{A: 5, B: 6, X: 1}}},
			{Kerns: []api.Kern{{A: 5, B: 6, X: 2}, {A: 6, B: 5, X: -32768}, {A: 6, B: 6, X: 32767}}},
		}},
	}, []api.Feature{
		{Tag: api.Tag{'m', 'a', 'r', 'k'}, Lookups: []int{0, 1}},
		{Tag: api.Tag{'k', 'e', 'r', 'n'}, Lookups: []int{3}},
	}
}

// P8.1: a table of all types; its fields, one by one.
func TestEveryType(t *testing.T) {
	l, features := isTable(t, "all types", everyType().bytes())
	want, named := everyAnswer()
	if !reflect.DeepEqual(l, want) || !reflect.DeepEqual(features, named) {
		t.Errorf("%v %v, want %v %v", l, features, want, named)
	}
}
