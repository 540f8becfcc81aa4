package gsub_test

import (
	"cmp"
	"math/rand"
	"slices"
	"testing"

	"calamus/api"
	"calamus/bin"
	"calamus/gsub"
)

// anyGlyphs tells some glyphs of twelve, rising.
func anyGlyphs(r *rand.Rand) []int {
	l := r.Perm(12)[:1+r.Intn(4)]
	slices.Sort(l)
	return l
}

// anyCoverage tells a coverage of these glyphs, of either format.
func anyCoverage(r *rand.Rand, l []int) block {
	if r.Intn(2) == 0 {
		return glyphs(l...)
	}
	x := block{2, len(l)}
	for i, g := range l {
		x = append(x, g, g, i)
	}
	if last := len(l) - 1; l[last]-l[0] == last {
		return span(l[0], l[last])
	}
	return x
}

// anyOnes tells n glyphs, each any one.
func anyOnes(r *rand.Rand, n int) []int {
	l := make([]int, n)
	for i := range l {
		l[i] = r.Intn(12)
	}
	return l
}

// anyRow tells from 1 to 3 glyphs.
func anyRow(r *rand.Rand) block { return row(anyOnes(r, 1+r.Intn(3))...) }

// anySet tells from 1 to 3 ligatures, of from 1 to 3 parts.
func anySet(r *rand.Rand) block {
	var l []block
	for range 1 + r.Intn(3) {
		l = append(l, ligature(r.Intn(12), anyOnes(r, r.Intn(3))...))
	}
	return row(l...)
}

// anySub tells a subtable of that type, for so many lookups.
func anySub(r *rand.Rand, kind, lookups int) block {
	l := anyGlyphs(r)
	c := anyCoverage(r, l)
	several := func(one func(r *rand.Rand) block) block {
		var rows []block
		for range l {
			rows = append(rows, one(r))
		}
		return mapped(1, c, rows...)
	}
	switch {
	case kind == 1 && r.Intn(2) == 0:
		return block{1, c, r.Intn(12-l[len(l)-1]+l[0]) - l[0]}
	case kind == 1:
		return mapped(2, c, r.Perm(12)[:len(l)]...)
	case kind == 4:
		return several(anySet)
	case kind == 6:
		return anyChain(r, lookups)
	}
	return several(anyRow)
}

// anyChain tells a subtable of the type 6.
func anyChain(r *rand.Rand, lookups int) block {
	sets := func(least int) []block {
		var l []block
		for range least + r.Intn(3) {
			l = append(l, anyCoverage(r, anyGlyphs(r)))
		}
		return l
	}
	back, in, ahead := sets(0), sets(1), sets(0)
	var records [][2]int
	for range r.Intn(4) {
		records = append(records, [2]int{r.Intn(len(in)), r.Intn(lookups)})
	}
	return chain(back, in, ahead, records...)
}

// anyTable tells a table of twelve glyphs.
func anyTable(r *rand.Rand) block {
	n := r.Intn(5)
	var features, lookups []block
	for range n {
		kind := []int{1, 2, 3, 4, 6}[r.Intn(5)]
		var subs []block
		for range 1 + r.Intn(3) {
			subs = append(subs, anySub(r, kind, n))
		}
		lookups = append(lookups, lookup(kind, r.Intn(16), subs...))
	}
	for range r.Intn(3) {
		features = append(features, feature([]string{"liga", "init", "zero"}[r.Intn(3)], r.Perm(n)[:r.Intn(n+1)]...))
	}
	return table(features, lookups...)
}

// rising: do these rise, and is each a right glyph?
func rising(l []uint16, glyphs int) bool {
	for i, g := range l {
		if i > 0 && l[i-1] >= g || int(g) >= glyphs {
			return false
		}
	}
	return true
}

// followsOf: does what a right table tells name right glyphs, and lookups that
// there are, and rise?
func followsOf(t *testing.T, b []byte, glyphs int) {
	t.Helper()
	l, features, _ := gsub.Parse(bin.Open(b), glyphs)
	ok := true
	for _, f := range features {
		ok = ok && slices.IsSorted(f.Lookups) && !slices.ContainsFunc(f.Lookups, func(n int) bool { return n < 0 || n >= len(l) })
	}
	for _, x := range l {
		for _, s := range x.Subs {
			ok = ok && followsOfSub(s, len(l), glyphs)
		}
	}
	if !ok {
		t.Fatalf("%d: %v %v", b, l, features)
	}
}

func followsOfSub(s api.Sub, lookups, glyphs int) bool {
	var froms, others []uint16
	for _, p := range s.Pairs {
		froms, others = append(froms, p.From), append(others, p.To)
	}
	for _, m := range s.Manys {
		froms, others = append(froms, m.From), append(others, m.To...)
	}
	for _, l := range s.Ligs {
		others = append(append(others, l.To), l.Parts...)
	}
	ok := rising(froms, glyphs) && !slices.ContainsFunc(others, func(g uint16) bool { return int(g) >= glyphs })
	ok = ok && slices.IsSortedFunc(s.Ligs, func(a, b api.Lig) int { return cmp.Compare(a.Parts[0], b.Parts[0]) })
	for _, set := range slices.Concat(s.Back, s.In, s.Ahead) {
		ok = ok && len(set) > 0 && rising(set, glyphs)
	}
	for _, record := range s.Records {
		ok = ok && record.At >= 0 && record.At < len(s.In) && record.Lookup >= 0 && record.Lookup < lookups
	}
	return ok
}
