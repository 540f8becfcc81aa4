package gpos_test

import (
	"slices"
	"testing"
)

// counted: is a table of these lookups, of all the glyphs that can be, as the
// words say, and right or wrong by how many are counted?
func counted(t *testing.T, what string, right bool, lookups ...block) {
	t.Helper()
	if asWords(t, table(nil, lookups...).bytes(), 65536) != right {
		t.Errorf("%s: right is %t", what, !right)
	}
}

// long tells a row of so many glyphs, from 0 on.
func long(k int) block {
	var l []int
	for g := range k {
		l = append(l, g, 1)
	}
	return seconds(l...)
}

// again tells a lookup of one subtable, n times.
func again(kind, n int, sub block) block {
	return join(block{kind, 0, n}, items(slices.Repeat([]int{6 + 2*n}, n)...), sub)
}

// flat tells the numbers of a block.
func flat(x block) block {
	var l []int
	b := x.bytes()
	for i := 0; i < len(b); i += 2 {
		l = append(l, int(b[i])<<8+int(b[i+1]))
	}
	return items(l...)
}

// P8.1: 65536 are counted of the type 2, and more.
func TestCountedKerns(t *testing.T) {
	counted(t, "one row", true, lookup(2, 0, kerns(glyphs(1), long(65535))))
	counted(t, "two rows", true, lookup(2, 0, kerns(glyphs(1, 2), long(1), long(65533))))
	counted(t, "two rows, and one", false, lookup(2, 0, kerns(glyphs(1, 2), long(1), long(65534))))
	counted(t, "two rows, and one ahead", false, lookup(2, 0, kerns(glyphs(1, 2), long(2), long(65533))))
	counted(t, "three rows", false, lookup(2, 0, kerns(glyphs(1, 2, 3), long(1), long(1), long(65532))))
	counted(t, "two subtables", true, lookup(2, 0, kerns(glyphs(1), long(3)), kerns(glyphs(1), long(65531))))
	counted(t, "two subtables, and one", false, lookup(2, 0, kerns(glyphs(1), long(3)), kerns(glyphs(1), long(65532))))
	counted(t, "two lookups", true, lookup(2, 0, kerns(glyphs(1), long(3))), lookup(2, 0, kerns(glyphs(1), long(65535))))
	counted(t, "a second lookup of more", false, lookup(2, 0, kerns(glyphs(1), long(3))), lookup(2, 0, kerns(glyphs(1, 2), long(3), long(65532))))
	counted(t, "256 subtables", true, again(2, 256, flat(kerns(glyphs(1), long(255)))))
	counted(t, "256 subtables, each of one more", false, again(2, 256, flat(kerns(glyphs(1), long(256)))))
	counted(t, "256 subtables, each of a row more", false, again(2, 256, flat(kerns(glyphs(1, 2), long(1), long(254)))))
	counted(t, "one row of many", true, lookup(2, 0, oneRow(1024, 63)))
	counted(t, "one row of many, and one", false, lookup(2, 0, oneRow(1025, 63)))
	counted(t, "a greater row of many", false, lookup(2, 0, oneRow(1024, 64)))
	counted(t, "a small row of many", true, lookup(2, 0, oneRow(16384, 3)))
	counted(t, "a small row of many, and one", false, lookup(2, 0, oneRow(16385, 3)))
	isNone(t, "a great row of many", table(nil, lookup(2, 0, oneRow(32000, 65535))).bytes(), 65536)
}

// oneRow tells a subtable of the type 2, of n glyphs that have one row, of k.
func oneRow(n, k int) block {
	x := join(block{1, 10 + 2*n, 4, 0, n}, items(slices.Repeat([]int{20 + 2*n}, n)...))
	return join(x, span(0, n-1), long(k))
}

// rowed tells a subtable of the type 4, of m marks that have one point, and b
// bases with n points each, which are all one, or none.
func rowed(m, b, n int, there bool) block {
	place := 0
	if there {
		place = 2 + 2*b*n
	}
	put, under := items(m), join(items(b), items(slices.Repeat([]int{place}, b*n)...), point(3, 4))
	for range m {
		put = append(put, 0, 2+4*m)
	}
	put = append(put, point(1, 2)...)
	x := join(block{1, 12, 22, n, 32, 32}, span(0, m-1), span(0, b-1))
	if len(put) < len(under) {
		x[5] = 32 + 2*len(put)
		return join(x, put, under)
	}
	x[4] = 32 + 2*len(under)
	return join(x, under, put)
}

// P8.1: 65536 are counted of the types 4 and 6, and more.
func TestCountedPoints(t *testing.T) {
	for kind := 4; kind <= 6; kind += 2 {
		of := func(m, b, n int) block { return lookup(kind, 0, rowed(m, b, n, false)) }
		counted(t, "a base", true, of(1, 1, 65533))
		counted(t, "a class more", false, of(1, 1, 65534))
		counted(t, "as many classes as there can be", false, of(1, 1, 65535))
		counted(t, "two marks", true, of(2, 1, 65531))
		counted(t, "two marks, and a class", false, of(2, 1, 65532))
		counted(t, "two bases", true, of(1, 2, 32766))
		counted(t, "two bases, and a class", false, of(1, 2, 32767))
		counted(t, "three bases", true, of(1, 3, 21843))
		counted(t, "three bases, and a class", false, of(1, 3, 21844))
		counted(t, "many bases", true, of(1, 32767, 1))
		counted(t, "many bases, and one", false, of(1, 32768, 1))
		counted(t, "many bases, of two classes", true, of(2, 21844, 2))
		counted(t, "many bases, of two classes, and one", false, of(2, 21845, 2))
		counted(t, "many marks", true, again(kind, 2, rowed(16383, 1, 1, false)))
		counted(t, "many marks, and a base", false, again(kind, 2, rowed(16383, 2, 1, false)))
		counted(t, "many marks, and a class", false, again(kind, 2, rowed(16383, 1, 2, false)))
		counted(t, "256 subtables", true, again(kind, 256, rowed(1, 1, 253, true)))
		counted(t, "256 subtables, each of a class more", false, again(kind, 256, rowed(1, 1, 254, true)))
		counted(t, "256 subtables, each of a mark more", false, again(kind, 256, rowed(2, 1, 253, true)))
		counted(t, "two subtables", true, lookup(kind, 0, rowed(1, 1, 10, true), rowed(1, 1, 65520, false)))
		counted(t, "two subtables, and a class", false, lookup(kind, 0, rowed(1, 1, 10, true), rowed(1, 1, 65521, false)))
		counted(t, "points that are there", true, again(kind, 4, rowed(1, 1, 16381, true)))
		counted(t, "points that are there, and some more", false, again(kind, 4, rowed(1, 1, 16382, true)))
		counted(t, "two lookups", true, of(1, 1, 30000), of(1, 1, 65533))
		counted(t, "a second lookup of more", false, of(1, 1, 30000), of(1, 1, 65534))
		counted(t, "more than there are bytes of", false, lookup(kind, 0, block{1, glyphs(1), span(0, 65534), 65535, marks(0, 0), block{65535}}))
	}
}
