package embed_test

import (
	"fmt"
	"math/rand"
	"slices"
	"strings"
	"testing"

	"calamus/api"
	"calamus/embed"
)

// names tells the classes' names, by their numbers.
func names() []string {
	return strings.Fields("0 L R AL EN ES ET AN CS NSM BN B S WS ON LRE RLE LRO RLO PDF LRI RLI FSI PDI")
}

// row tells classes by their names.
func row(text string) []api.Class {
	var l []api.Class
	for _, name := range strings.Fields(text) {
		c := slices.Index(names(), name)
		if c < 1 {
			panic("no class: " + name)
		}
		l = append(l, api.Class(c))
	}
	return l
}

// times tells classes, so many times.
func times(n int, text string) []api.Class { return slices.Repeat(row(text), n) }

// numbers tells levels, written behind one another.
func numbers(text string) []uint8 {
	var l []uint8
	for _, word := range strings.Fields(text) {
		var n uint8
		fmt.Sscan(word, &n)
		l = append(l, n)
	}
	return l
}

// everyClass tells all classes.
func everyClass() []api.Class {
	var l []api.Class
	for c := api.L; c <= api.PDI; c++ {
		l = append(l, c)
	}
	return l
}

// everyRow goes through all rows of n out of some.
func everyRow(of []api.Class, n int, each func(l []api.Class)) {
	l := make([]api.Class, n)
	var fill func(at int)
	fill = func(at int) {
		if at == n {
			each(l)
			return
		}
		for _, c := range of {
			l[at] = c
			fill(at + 1)
		}
	}
	fill(0)
}

// anyRow tells a row of up to that many classes, out of some of them.
func anyRow(r *rand.Rand, most int, of []api.Class) []api.Class {
	few := make([]api.Class, 1+r.Intn(12))
	for i := range few {
		few[i] = of[r.Intn(len(of))]
	}
	l := make([]api.Class, r.Intn(most+1))
	for i := range l {
		l[i] = few[r.Intn(len(few))]
	}
	return l
}

// deepRow tells a row that goes as deep as may be, and deeper, and back.
func deepRow(r *rand.Rand) []api.Class {
	var l []api.Class
	begins, ends := row("LRE RLE LRO RLO LRI RLI FSI"), row("PDF PDI PDI")
	if r.Intn(2) == 0 {
		begins = begins[r.Intn(len(begins)):]
	}
	for _, of := range [][]api.Class{begins, append(ends, begins...), ends} {
		for range 40 + r.Intn(120) {
			if r.Intn(4) == 0 {
				l = append(l, api.Class(1+r.Intn(14)))
			}
			l = append(l, of[r.Intn(len(of))])
		}
	}
	if r.Intn(2) == 0 {
		l = slices.DeleteFunc(l, func(c api.Class) bool { return c == api.B })
	}
	return l
}

// someRows goes through rows of all classes, short and long ones.
func someRows(seed int64, n int, each func(r *rand.Rand, l []api.Class)) {
	r := rand.New(rand.NewSource(seed))
	for i := range n {
		switch i % 10 {
		case 0:
			each(r, deepRow(r))
		case 1:
			each(r, anyRow(r, 120, everyClass()))
		default:
			each(r, anyRow(r, 12, everyClass()))
		}
	}
}

// sameLevels holds Levels against what it should tell.
func sameLevels(t *testing.T, l []api.Class, base uint8) {
	t.Helper()
	levels, classes, paragraph, e := embed.Levels(l, base)
	want, wanted, p := levelsByWords(l, base)
	if e != api.OK || !slices.Equal(levels, want) || !slices.Equal(classes, wanted) || paragraph != p {
		t.Fatalf("Levels(%d, %d): %d %d %d %d,\nwant %d %d %d", l, base, levels, classes, paragraph, e, want, wanted, p)
	}
}

// sameSeq: are two sequences alike?
func sameSeq(a, b embed.Seq) bool {
	return slices.Equal(a.Places, b.Places) && a.Level == b.Level && a.Sos == b.Sos && a.Eos == b.Eos
}

// sameSequences holds Sequences against what it should tell.
func sameSequences(t *testing.T, l []api.Class, levels []uint8, base uint8) {
	t.Helper()
	all, e := embed.Sequences(l, levels, base)
	if want := sequencesByWords(l, levels, base); e != api.OK || !slices.EqualFunc(all, want, sameSeq) {
		t.Fatalf("Sequences(%d, %d, %d): %d %d,\nwant %d", l, levels, base, all, e, want)
	}
}
