package gsub_test

import (
	"reflect"
	"slices"
	"testing"

	"calamus/api"
	"calamus/bin"
	"calamus/gsub"
)

// block is numbers of two bytes each, and blocks: of one of these the place,
// from this one's beginning, stands there, and its bytes behind.
type block []any

// bytes tells the bytes of a block.
func (x block) bytes() []byte {
	var head, tail []byte
	for _, item := range x {
		n, ok := item.(int)
		if !ok {
			n = 2*len(x) + len(tail)
			tail = append(tail, item.(block).bytes()...)
		}
		head = append(head, byte(n>>8), byte(n))
	}
	return append(head, tail...)
}

// row tells a block that begins with how many there are.
func row[T any](l ...T) block {
	x := block{len(l)}
	for _, item := range l {
		x = append(x, item)
	}
	return x
}

// glyphs tells a coverage of the format 1.
func glyphs(l ...int) block { return append(block{1}, row(l...)...) }

// span tells a coverage of the format 2, from a glyph to another.
func span(first, last int) block { return block{2, 1, first, last, 0} }

// join tells a block of the items of all of them.
func join(l ...block) block { return slices.Concat(l...) }

// mapped tells a subtable that has a coverage, and something for each glyph of it.
func mapped[T any](format int, c block, l ...T) block { return join(block{format, c}, row(l...)) }

// ligature tells one, by the glyph and the parts but the first one.
func ligature(to int, others ...int) block {
	return join(block{to, len(others) + 1}, row(others...)[1:])
}

// chain tells a subtable of the type 6. Records are rows of their numbers.
func chain(back, in, ahead []block, records ...[2]int) block {
	x := join(block{3}, row(back...), row(in...), row(ahead...), block{len(records)})
	for _, record := range records {
		x = append(x, record[0], record[1])
	}
	return x
}

// lookup tells a lookup of subtables.
func lookup(kind, flag int, subs ...block) block { return join(block{kind, flag}, row(subs...)) }

// feature tells the numbers of a record of four letters, and what it points to.
func feature(name string, lookups ...int) block {
	return block{int(name[0])<<8 + int(name[1]), int(name[2])<<8 + int(name[3]), join(block{0}, row(lookups...))}
}

// table tells a table of features, and of lookups.
func table(features []block, lookups ...block) block {
	return block{1, 0, 77, join(block{len(features)}, join(features...)), row(lookups...)}
}

// only tells the bytes of a table of one lookup, of one subtable, and nothing else.
func only(kind int, sub block) []byte { return table(nil, lookup(kind, 0, sub)).bytes() }

// sameAnswer: are two answers alike? No list is as good as an empty one.
func sameAnswer(a, b api.Lookup) bool {
	return a.Type == b.Type && a.Flag == b.Flag && len(a.Poss)+len(b.Poss) == 0 && slices.EqualFunc(a.Subs, b.Subs, sameSub)
}

func sameSub(a, b api.Sub) bool {
	many := func(a, b api.Many) bool { return a.From == b.From && slices.Equal(a.To, b.To) }
	lig := func(a, b api.Lig) bool { return a.To == b.To && slices.Equal(a.Parts, b.Parts) }
	sets := func(a, b [][]uint16) bool { return slices.EqualFunc(a, b, slices.Equal[[]uint16]) }
	return slices.Equal(a.Pairs, b.Pairs) && slices.EqualFunc(a.Manys, b.Manys, many) && slices.EqualFunc(a.Ligs, b.Ligs, lig) &&
		sets(a.Back, b.Back) && sets(a.In, b.In) && sets(a.Ahead, b.Ahead) && slices.Equal(a.Records, b.Records)
}

func sameFeature(a, b api.Feature) bool {
	return a.Tag == b.Tag && slices.Equal(a.Lookups, b.Lookups)
}

// isSub: is that subtable, of ten glyphs, told so, and does the reader stay as
// it was?
func isSub(t *testing.T, what string, kind int, sub block, want api.Sub) {
	t.Helper()
	b := only(kind, sub)
	r := bin.Open(b)
	l, features, e := gsub.Parse(r, 10)
	if e != api.OK || len(features) != 0 || len(l) != 1 || !sameAnswer(l[0], api.Lookup{Type: uint16(kind), Subs: []api.Sub{want}}) {
		t.Errorf("%s: %v %v %d, want %v", what, l, features, e, want)
	}
	if r.Bad() || !slices.Equal(r.Bytes(), b) {
		t.Errorf("%s: the reader is changed: %d, bad %t", what, r.Bytes(), r.Bad())
	}
}

// isNone: is a table wrong, of so many glyphs?
func isNone(t *testing.T, what string, b []byte, glyphs int) {
	t.Helper()
	if l, features, e := gsub.Parse(bin.Open(b), glyphs); e != api.ErrFont || l != nil || features != nil {
		t.Errorf("%s: %d lookups, %v, %d, want ErrFont", what, len(l), features, e)
	}
}

// isNoSub: is that subtable wrong, of ten glyphs?
func isNoSub(t *testing.T, what string, kind int, sub block) {
	t.Helper()
	isNone(t, what, only(kind, sub), 10)
}

// isTable: is a table of ten glyphs right? Tells its answer.
func isTable(t *testing.T, what string, b []byte) ([]api.Lookup, []api.Feature) {
	t.Helper()
	l, features, e := gsub.Parse(bin.Open(b), 10)
	if e != api.OK {
		t.Errorf("%s: %d", what, e)
	}
	return l, features
}

// everyType tells a table of a lookup of each type, and of features.
func everyType() block {
	many := mapped(1, glyphs(2, 5), row(3, 4), row(6))
	ligs := mapped(1, span(3, 4), row(ligature(9, 1, 2), ligature(8)), row(ligature(7, 4)))
	back, in, ahead := []block{glyphs(1)}, []block{span(2, 3), glyphs(4, 6)}, []block{glyphs(5), glyphs(9)}
	return table([]block{feature("liga", 3, 0, 3), feature("calt", 5)},
		lookup(1, 8, block{1, glyphs(5, 7), 65534}),
		lookup(1, 3, mapped(2, glyphs(1, 8), 9, 0), block{1, span(0, 2), 2}),
		lookup(2, 0, many),
		lookup(4, 2, ligs),
		lookup(3, 14, many),
		lookup(6, 4, chain(back, in, ahead, [2]int{1, 0}, [2]int{0, 5})))
}

// everyAnswer is what everyType tells.
func everyAnswer() ([]api.Lookup, []api.Feature) {
	return []api.Lookup{
		{Type: 1, Flag: 8, Subs: []api.Sub{{Pairs: []api.Pair{{From: 5, To: 3}, {From: 7, To: 5}}}}},
		{Type: 1, Flag: 2, Subs: []api.Sub{
			{Pairs: []api.Pair{{From: 1, To: 9}, {From: 8, To: 0}}},
			{Pairs: []api.Pair{{From: 0, To: 2}, {From: 1, To: 3}, {From: 2, To: 4}}},
		}},
		{Type: 2, Subs: []api.Sub{{Manys: []api.Many{{From: 2, To: []uint16{3, 4}}, {From: 5, To: []uint16{6}}}}}},
		{Type: 4, Flag: 2, Subs: []api.Sub{{Ligs: []api.Lig{{Parts: []uint16{3, 1, 2}, To: 9}, {Parts: []uint16{3}, To: 8}, {Parts: []uint16{4, 4}, To: 7}}}}},
		{Type: 3, Flag: 14, Subs: []api.Sub{{Pairs: []api.Pair{{From: 2, To: 3}, {From: 5, To: 6}}}}},
		{Type: 6, Flag: 4, Subs: []api.Sub{{
			Back: [][]uint16{{1}}, In: [][]uint16{{2, 3}, {4, 6}}, Ahead: [][]uint16{{5}, {9}},
			Records: []api.Record{{At: 1, Lookup: 0}, {At: 0, Lookup: 5}},
		}}},
	}, []api.Feature{
		{Tag: api.Tag{'l', 'i', 'g', 'a'}, Lookups: []int{0, 3}},
		{Tag: api.Tag{'c', 'a', 'l', 't'}, Lookups: []int{5}},
	}
}

// P7.1: a table of all types; its fields, one by one.
func TestEveryType(t *testing.T) {
	l, features := isTable(t, "all types", everyType().bytes())
	want, named := everyAnswer()
	if !reflect.DeepEqual(l, want) || !reflect.DeepEqual(features, named) {
		t.Errorf("%v %v, want %v %v", l, features, want, named)
	}
}
