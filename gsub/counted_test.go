package gsub_test

import (
	"slices"
	"testing"
)

// counted: is a table of these lookups, of all the glyphs that can be, as the
// words say, and right or wrong by how many are counted?
func counted(t *testing.T, what string, right bool, lookups ...block) {
	t.Helper()
	if asWords(t, table(nil, lookups...).bytes(), 65536) != right {
		t.Errorf("%s: right is %t", what, !right)
	}
}

// many tells so many noughts.
func many(n int) []int { return make([]int, n) }

// P7.1: 65536 are counted of the type 1, and more.
func TestCountedPairs(t *testing.T) {
	of := func(glyphs int) block { return block{1, span(0, glyphs-1), 7} }
	listed := func(n int) block { // its coverage, of all glyphs below n, stands among what they become
		return append(block{2, 6, n, 2, 1, 0, n - 1, 0}, row(many(n - 5)...)[1:]...)
	}
	counted(t, "half as many", true, lookup(1, 0, of(32768)))
	counted(t, "one more", false, lookup(1, 0, of(32769)))
	counted(t, "two halves", true, lookup(1, 0, of(16384), of(16384)))
	counted(t, "two halves, and one", false, lookup(1, 0, of(16384), of(16384), of(1)))
	counted(t, "two lookups", true, lookup(1, 0, of(32768)), lookup(1, 0, of(32768)))
	counted(t, "a second lookup of more", false, lookup(1, 0, of(32768)), lookup(1, 0, of(32769)))
	counted(t, "listed", true, lookup(1, 0, listed(32768)))
	counted(t, "one more, listed", false, lookup(1, 0, listed(32769)))
	counted(t, "some of either", true, lookup(1, 0, of(30000), listed(2768)))
	counted(t, "some of either, and one", false, lookup(1, 0, of(30001), listed(2768)))
	counted(t, "256 subtables", true, lookup(1, 0, slices.Repeat([]block{of(128)}, 256)...))
	counted(t, "256 subtables, and one glyph", false, lookup(1, 0, append(slices.Repeat([]block{of(128)}, 255), of(129))...))
}

// P7.1: 65536 are counted of the types 2 and 3, and more.
func TestCountedRows(t *testing.T) {
	for kind := 2; kind <= 3; kind++ {
		counted(t, "one row", true, lookup(kind, 0, mapped(1, glyphs(1), row(many(65535)...))))
		counted(t, "two rows", true, lookup(kind, 0, mapped(1, glyphs(1, 2), row(1), row(many(65533)...))))
		counted(t, "two rows, and one", false, lookup(kind, 0, mapped(1, glyphs(1, 2), row(1), row(many(65534)...))))
		counted(t, "a row, and a subtable", false, lookup(kind, 0, mapped(1, glyphs(1), row(1)), mapped(1, glyphs(1), row(many(65535)...))))
		counted(t, "two subtables", true, lookup(kind, 0, mapped(1, glyphs(1), row(1, 2, 3)), mapped(1, glyphs(1), row(many(65531)...))))
		counted(t, "two subtables, and one", false, lookup(kind, 0, mapped(1, glyphs(1), row(1, 2, 3)), mapped(1, glyphs(1), row(many(65532)...))))
		one := func(n, k int) block { // one row, of all the glyphs
			return append(append(append(block{1, 6 + 2*n, n}, asItems(slices.Repeat([]int{16 + 2*n}, n))...), span(0, n-1)...), row(many(k)...)...)
		}
		counted(t, "a row of many", true, lookup(kind, 0, one(1024, 63)))
		counted(t, "a row of many, and one", false, lookup(kind, 0, one(1025, 63)))
		counted(t, "a greater row of many", false, lookup(kind, 0, one(1024, 64)))
	}
}

// asItems tells numbers as a block.
func asItems(l []int) block { return row(l...)[1:] }

// P7.1: 65536 are counted of the type 4, and more.
func TestCountedLigatures(t *testing.T) {
	long := func(parts int) block { return mapped(1, glyphs(1), row(ligature(9, many(parts-1)...))) }
	counted(t, "a ligature", true, lookup(4, 0, long(65534)))
	counted(t, "a part more", false, lookup(4, 0, long(65535)))
	counted(t, "two subtables", true, lookup(4, 0, long(30000), long(35532)))
	counted(t, "two subtables, and one", false, lookup(4, 0, long(30000), long(35533)))
	set := func(n int) block { // n times one of one part
		return append(append(block{n}, asItems(slices.Repeat([]int{2 + 2*n}, n))...), 9, 1)
	}
	counted(t, "many ligatures", true, lookup(4, 0, mapped(1, glyphs(1, 2), set(1), set(32766))))
	counted(t, "one more ligature", false, lookup(4, 0, mapped(1, glyphs(1, 2), set(2), set(32766))))
	counted(t, "one more glyph", false, lookup(4, 0, mapped(1, glyphs(1, 2, 3), set(1), set(1), set(32765))))
}

// P7.1: 65536 are counted of the type 6, and more; of its coverages, not of its
// records.
func TestCountedSets(t *testing.T) {
	all, some, one := []block{span(0, 65534)}, []block{glyphs(1), span(2, 32768), span(2, 32768)}, []block{glyphs(1)}
	counted(t, "behind", true, lookup(6, 0, chain(all, one, nil)))
	counted(t, "behind, and one", false, lookup(6, 0, chain(all, one, one)))
	counted(t, "in it", true, lookup(6, 0, chain(nil, all, one)))
	counted(t, "in it, and one", false, lookup(6, 0, chain(one, all, one)))
	counted(t, "ahead", true, lookup(6, 0, chain(nil, one, all)))
	counted(t, "ahead, and one", false, lookup(6, 0, chain(one, one, all)))
	counted(t, "in several", true, lookup(6, 0, chain(nil, some, []block{span(1, 1)})))
	counted(t, "in several, and one", false, lookup(6, 0, chain(nil, some, []block{span(1, 2)})))
	counted(t, "in several behind", false, lookup(6, 0, chain(some, one, one)))
	counted(t, "in several ahead", false, lookup(6, 0, chain(one, one, some)))
	counted(t, "two subtables", true, lookup(6, 0, chain(nil, []block{span(0, 65533)}, nil), chain(one, one, nil)))
	counted(t, "two subtables, and one", false, lookup(6, 0, chain(nil, all, nil), chain(one, one, nil)))
	shared := func(n int) block { return append(block{3, 1, 16, 1, 16, 0, 0, 0}, span(0, n-1)...) }
	counted(t, "a coverage twice", true, lookup(6, 0, shared(32768)))
	counted(t, "a coverage twice, and one", false, lookup(6, 0, shared(32769)))
	// The coverage of both stands among the records, of which two subtables are one.
	records := append(block{3, 0, 2, 14, 14, 0, 65535, 1, 1, 0, 0}, asItems(many(2*65533))...)
	counted(t, "records", true, lookup(6, 0, chain(nil, one, nil)), append(block{6, 0, 2, 10, 10}, records...))
}
