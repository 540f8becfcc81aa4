package gpos_test

import (
	"math/rand"
	"slices"
	"testing"

	"calamus/api"
	"calamus/bin"
	"calamus/gpos"
)

// anyGlyphs tells some glyphs of twelve, rising.
func anyGlyphs(r *rand.Rand) []int {
	l := r.Perm(12)[:1+r.Intn(4)]
	slices.Sort(l)
	return l
}

// anyCoverage tells a coverage of these glyphs, of either format.
func anyCoverage(r *rand.Rand, l []int) block {
	if r.Intn(2) == 0 {
		return glyphs(l...)
	}
	x := block{2, len(l)}
	for i, g := range l {
		x = append(x, g, g, i)
	}
	if last := len(l) - 1; l[last]-l[0] == last {
		return span(l[0], l[last])
	}
	return x
}

// anyNumber tells any number of two bytes.
func anyNumber(r *rand.Rand) int { return r.Intn(65536) >> r.Intn(16) }

// anyKerns tells a subtable of the type 2.
func anyKerns(r *rand.Rand) block {
	l := anyGlyphs(r)
	var rows []block
	for range l {
		var row []int
		for _, g := range anyGlyphs(r) {
			row = append(row, g, anyNumber(r))
		}
		rows = append(rows, seconds(row...))
	}
	return kerns(anyCoverage(r, l), rows...)
}

// anyAttached tells a subtable of the types 4 and 6.
func anyAttached(r *rand.Rand) block {
	m, b, n := anyGlyphs(r), anyGlyphs(r), 1+r.Intn(3)
	var put, under []any
	for range m {
		put = append(put, r.Intn(n), point(anyNumber(r), anyNumber(r)))
	}
	for range n * len(b) {
		if r.Intn(3) == 0 {
			under = append(under, 0)
		} else {
			under = append(under, point(anyNumber(r), anyNumber(r)))
		}
	}
	return attach(anyCoverage(r, m), anyCoverage(r, b), n, marks(put...), bases(n, under...))
}

// anyTable tells a table of twelve glyphs.
func anyTable(r *rand.Rand) block {
	n := r.Intn(5)
	var features, lookups []block
	for range n {
		kind := []int{2, 4, 6}[r.Intn(3)]
		var subs []block
		for range 1 + r.Intn(3) {
			if kind == 2 {
				subs = append(subs, anyKerns(r))
			} else {
				subs = append(subs, anyAttached(r))
			}
		}
		lookups = append(lookups, lookup(kind, r.Intn(16), subs...))
	}
	for range r.Intn(3) {
		features = append(features, feature([]string{"kern", "mark", "mkmk"}[r.Intn(3)], r.Perm(n)[:r.Intn(n+1)]...))
	}
	return table(features, lookups...)
}

// followsOf: does what a right table tells name right glyphs, classes that there
// are, and rise?
func followsOf(t *testing.T, b []byte, glyphs int) {
	t.Helper()
	l, features, _ := gpos.Parse(bin.Open(b), glyphs)
	ok := true
	for _, f := range features {
		ok = ok && slices.IsSorted(f.Lookups) && !slices.ContainsFunc(f.Lookups, func(n int) bool { return n < 0 || n >= len(l) })
	}
	for _, x := range l {
		for _, p := range x.Poss {
			ok = ok && followsOfPos(p, glyphs) && (x.Type == 2) == (len(p.Kerns) > 0) && (x.Type == 2) == (len(p.Marks)+len(p.Bases) == 0)
		}
	}
	if !ok {
		t.Fatalf("%d: %v %v", b, l, features)
	}
}

func followsOfPos(p api.Pos, glyphs int) bool {
	ok := true
	for i, k := range p.Kerns {
		ok = ok && int(k.A) < glyphs && int(k.B) < glyphs
		ok = ok && (i == 0 || p.Kerns[i-1].A < k.A || p.Kerns[i-1].A == k.A && p.Kerns[i-1].B < k.B)
	}
	classes := 0
	for i, b := range p.Bases {
		ok = ok && int(b.Glyph) < glyphs && (i == 0 || p.Bases[i-1].Glyph < b.Glyph && len(b.Anchors) == classes)
		classes = len(b.Anchors)
		for _, a := range b.Anchors {
			ok = ok && (a.Has || a == api.Anchor{})
		}
	}
	for i, m := range p.Marks {
		ok = ok && int(m.Glyph) < glyphs && int(m.Class) < classes && (i == 0 || p.Marks[i-1].Glyph < m.Glyph)
	}
	return ok
}
