package gsub_test

import (
	"testing"

	"calamus/api"
)

// pairs tells the subtable of these numbers, two by two.
func pairs(l ...uint16) api.Sub {
	var s api.Sub
	for i := 0; i < len(l); i += 2 {
		s.Pairs = append(s.Pairs, api.Pair{From: l[i], To: l[i+1]})
	}
	return s
}

// P7.1: the chapter's examples.
func TestExamples(t *testing.T) {
	isSub(t, "type 1", 1, block{1, 6, 3, 1, 1, 5}, pairs(5, 8))
	isSub(t, "type 4", 4, block{1, 8, 1, 14, 1, 1, 5, 1, 4, 9, 2, 6}, api.Sub{Ligs: []api.Lig{{Parts: []uint16{5, 6}, To: 9}}})
}

// P7.1: the type 1 of the format 1.
func TestShifted(t *testing.T) {
	isSub(t, "on by 3", 1, block{1, glyphs(1, 2, 6), 3}, pairs(1, 4, 2, 5, 6, 9))
	isSub(t, "back by 1", 1, block{1, glyphs(1, 2, 6), 65535}, pairs(1, 0, 2, 1, 6, 5))
	isSub(t, "on by 0", 1, block{1, glyphs(0, 9), 0}, pairs(0, 0, 9, 9))
	isSub(t, "ranges", 1, block{1, block{2, 2, 1, 2, 0, 4, 5, 2}, 65535}, pairs(1, 0, 2, 1, 4, 3, 5, 4))
	isSub(t, "more behind", 1, block{1, glyphs(1), 1, 7, 7}, pairs(1, 2))
	isNoSub(t, "one too far", 1, block{1, glyphs(1, 2, 6), 4})
	isNoSub(t, "the first one too far back", 1, block{1, glyphs(1, 2, 6), 65534})
	isNoSub(t, "far beyond", 1, block{1, glyphs(1), 32767})
	isNoSub(t, "a coverage that is none", 1, block{1, block{3, 1, 1}, 1})
	isNoSub(t, "a coverage of none", 1, block{1, glyphs(), 1})
	isNoSub(t, "a coverage that falls", 1, block{1, glyphs(2, 1), 1})
	isNoSub(t, "a glyph that is not right", 1, block{1, glyphs(2, 10), 65535})
	isNoSub(t, "no coverage there", 1, block{1, 300, 1})
	isNoSub(t, "cut off", 1, block{1})
}

// P7.1: the type 1 of the format 2.
func TestListed(t *testing.T) {
	isSub(t, "two", 1, mapped(2, glyphs(3, 7), 9, 0), pairs(3, 9, 7, 0))
	isSub(t, "a range", 1, mapped(2, span(3, 5), 9, 3, 3), pairs(3, 9, 4, 3, 5, 3))
	isNoSub(t, "one more than glyphs", 1, mapped(2, glyphs(3, 7), 9, 0, 1))
	isNoSub(t, "one less than glyphs", 1, mapped(2, glyphs(3, 7), 9))
	isNoSub(t, "none", 1, mapped[int](2, glyphs(3, 7)))
	isNoSub(t, "of no glyphs", 1, mapped[int](2, glyphs()))
	isNoSub(t, "a glyph that is not right", 1, mapped(2, glyphs(3, 7), 9, 10))
	isNoSub(t, "a first one that is not right", 1, mapped(2, glyphs(3, 7), 65535, 9))
	isNoSub(t, "a glyph of the coverage that is not right", 1, mapped(2, glyphs(3, 11), 9, 9))
	isNoSub(t, "a coverage that is none", 1, mapped(2, block{0, 1, 3}, 9))
	isNoSub(t, "cut off", 1, block{2, 8, 1})
	for _, format := range []int{0, 3, 4, 257, 258, 65535} {
		isNoSub(t, "of another format", 1, mapped(format, glyphs(3, 7), 9, 0))
	}
}

// P7.1: the type 2.
func TestMultiple(t *testing.T) {
	want := api.Sub{Manys: []api.Many{{From: 2, To: []uint16{9, 0, 9}}, {From: 3, To: []uint16{2}}}}
	isSub(t, "two", 2, mapped(1, span(2, 3), row(9, 0, 9), row(2)), want)
	isSub(t, "at one place", 2, block{1, 10, 2, 18, 18, 1, 2, 4, 5, 1, 7}, api.Sub{Manys: []api.Many{{From: 4, To: []uint16{7}}, {From: 5, To: []uint16{7}}}})
	isSub(t, "one that is the coverage", 2, block{1, 8, 1, 8, 1, 1, 3}, api.Sub{Manys: []api.Many{{From: 3, To: []uint16{1}}}})
	wrongRows(t, 2)
}

// P7.1: the type 3.
func TestAlternate(t *testing.T) {
	isSub(t, "two", 3, mapped(1, span(2, 3), row(9, 0, 9), row(2)), pairs(2, 9, 3, 2))
	isSub(t, "at one place", 3, block{1, 10, 2, 18, 18, 1, 2, 4, 5, 2, 7, 8}, pairs(4, 7, 5, 7))
	wrongRows(t, 3)
}

// wrongRows asks for what is wrong of the types 2 and 3.
func wrongRows(t *testing.T, kind int) {
	t.Helper()
	for _, format := range []int{0, 2, 3, 256, 257, 65535} {
		isNoSub(t, "another format", kind, mapped(format, glyphs(2, 3), row(9), row(2)))
	}
	isNoSub(t, "a row of none", kind, mapped(1, glyphs(2, 3), row(9), row[int]()))
	isNoSub(t, "a first row of none", kind, mapped(1, glyphs(2, 3), row[int](), row(9)))
	isNoSub(t, "a row less", kind, mapped(1, glyphs(2, 3), row(9)))
	isNoSub(t, "a row more", kind, mapped(1, glyphs(2, 3), row(9), row(9), row(9)))
	isNoSub(t, "a glyph that is not right", kind, mapped(1, glyphs(2, 3), row(9), row(10)))
	isNoSub(t, "a later one that is not right", kind, mapped(1, glyphs(2, 3), row(9, 65535), row(1)))
	isNoSub(t, "a glyph of the coverage that is not right", kind, mapped(1, glyphs(2, 10), row(9), row(9)))
	isNoSub(t, "a row that is cut off", kind, mapped(1, glyphs(2), block{3, 9, 9}))
	isNoSub(t, "a row that is nowhere", kind, block{1, glyphs(2), 1, 500})
	isNoSub(t, "no coverage", kind, block{1, 500, 1, 8, 1, 1})
	isNoSub(t, "a coverage that falls", kind, mapped(1, glyphs(3, 2), row(9), row(9)))
}

// P7.1: the type 4.
func TestLigatures(t *testing.T) {
	lig := func(to uint16, parts ...uint16) api.Lig { return api.Lig{Parts: parts, To: to} }
	isSub(t, "sets in order", 4, mapped(1, glyphs(2, 6), row(ligature(9, 5, 0), ligature(1), ligature(9, 5)), row(ligature(0, 6))),
		api.Sub{Ligs: []api.Lig{lig(9, 2, 5, 0), lig(1, 2), lig(9, 2, 5), lig(0, 6, 6)}})
	isSub(t, "at one place", 4, block{1, 22, 2, 10, 10, 2, 6, 6, 8, 2, 4, 1, 2, 2, 3},
		api.Sub{Ligs: []api.Lig{lig(8, 2, 4), lig(8, 2, 4), lig(8, 3, 4), lig(8, 3, 4)}})
	for _, format := range []int{0, 2, 3, 256, 257, 65535} {
		isNoSub(t, "another format", 4, mapped(format, glyphs(2), row(ligature(9, 5))))
	}
	isNoSub(t, "a set of none", 4, mapped(1, glyphs(2, 3), row(ligature(9, 5)), row[block]()))
	isNoSub(t, "a set less", 4, mapped(1, glyphs(2, 3), row(ligature(9, 5))))
	isNoSub(t, "a set more", 4, mapped(1, glyphs(2), row(ligature(9, 5)), row(ligature(9, 5))))
	isNoSub(t, "a ligature of no parts", 4, mapped(1, glyphs(2), row(block{9, 0})))
	isNoSub(t, "a glyph that is not right", 4, mapped(1, glyphs(2), row(ligature(10, 5))))
	isNoSub(t, "a part that is not right", 4, mapped(1, glyphs(2), row(ligature(9, 5, 10))))
	isNoSub(t, "a first part that is not right", 4, mapped(1, glyphs(2, 10), row(ligature(9)), row(ligature(9))))
	isNoSub(t, "a later ligature that is not right", 4, mapped(1, glyphs(2), row(ligature(9, 5), ligature(9, 11))))
	isNoSub(t, "a ligature that is cut off", 4, mapped(1, glyphs(2), row(block{9, 3, 5})))
	isNoSub(t, "a ligature of half", 4, mapped(1, glyphs(2), row(block{9})))
	isNoSub(t, "a ligature that is nowhere", 4, mapped(1, glyphs(2), row(500)))
	isNoSub(t, "a set that is cut off", 4, mapped(1, glyphs(2), block{2, 4}))
	isNoSub(t, "a set that is nowhere", 4, mapped(1, glyphs(2), 500))
	isNoSub(t, "a coverage that falls", 4, mapped(1, glyphs(3, 2), row(ligature(9)), row(ligature(9))))
}

// P7.1: the type 6.
func TestChained(t *testing.T) {
	sets := func(l ...[]uint16) [][]uint16 { return l }
	back, in, ahead := []block{glyphs(1, 2), glyphs(3)}, []block{span(4, 6)}, []block{glyphs(0), glyphs(7), glyphs(9)}
	isSub(t, "all", 6, chain(back, in, ahead, [2]int{0, 0}), api.Sub{
		Back: sets([]uint16{1, 2}, []uint16{3}), In: sets([]uint16{4, 5, 6}), Ahead: sets([]uint16{0}, []uint16{7}, []uint16{9}),
		Records: []api.Record{{}}})
	isSub(t, "none behind, none ahead, no record", 6, chain(nil, in, nil), api.Sub{In: sets([]uint16{4, 5, 6})})
	isSub(t, "records in order", 6, chain(nil, ahead, nil, [2]int{2, 0}, [2]int{0, 0}, [2]int{2, 0}), api.Sub{
		In: sets([]uint16{0}, []uint16{7}, []uint16{9}), Records: []api.Record{{At: 2}, {}, {At: 2}}})
	isSub(t, "coverages at one place", 6, block{3, 1, 18, 2, 18, 18, 1, 18, 0, 1, 1, 5}, api.Sub{
		Back: sets([]uint16{5}), In: sets([]uint16{5}, []uint16{5}), Ahead: sets([]uint16{5})})
	for _, format := range []int{0, 1, 2, 4, 259, 768, 65535} {
		isNoSub(t, "another format", 6, append(block{format}, chain(nil, in, nil)[1:]...))
	}
	isNoSub(t, "nothing in it", 6, chain(back, nil, ahead))
	isNoSub(t, "a record beyond it", 6, chain(nil, in, nil, [2]int{1, 0}))
	isNoSub(t, "a record beyond it, but not beyond all", 6, chain(back, in, ahead, [2]int{1, 0}))
	isNoSub(t, "a lookup that is none", 6, chain(nil, in, nil, [2]int{0, 1}))
	isNoSub(t, "a second record that is wrong", 6, chain(nil, in, nil, [2]int{0, 0}, [2]int{0, 65535}))
	for _, wrong := range []block{glyphs(), glyphs(10), glyphs(3, 3), {0, 1, 1}} {
		isNoSub(t, "behind", 6, chain([]block{glyphs(1), wrong}, in, ahead))
		isNoSub(t, "in it", 6, chain(back, []block{wrong, glyphs(1)}, ahead))
		isNoSub(t, "ahead", 6, chain(back, in, []block{wrong}))
	}
	for n := range 7 {
		isNoSub(t, "cut off", 6, block{3, 1, 0, 1, 0, 1, 0}[:n:n])
	}
}

// P7.1: types that are none, whatever the subtable is like.
func TestOtherTypes(t *testing.T) {
	for _, kind := range []int{0, 5, 7, 8, 9, 255, 256, 257, 258, 260, 262, 32769, 65535} {
		for _, sub := range []block{{1, glyphs(1), 1}, mapped(2, glyphs(1), 1), mapped(1, glyphs(1), row(1)), mapped(1, glyphs(1), row(ligature(1))), chain(nil, []block{glyphs(1)}, nil), {1}} {
			isNoSub(t, "another type", kind, sub)
		}
	}
}
