package gpos_test

import (
	"slices"
	"testing"

	"calamus/api"
	"calamus/bin"
	"calamus/gpos"
)

// asked is bytes of which the chapter's words are asked, one by one; what is not
// as they say ends all by a panic of notSo.
type asked struct {
	b       []byte
	glyphs  int
	lookups int
	counted int
}

type notSo struct{}

func holds(ok bool) {
	if !ok {
		panic(notSo{})
	}
}

func (x *asked) w(at int) int {
	holds(at >= 0 && at+2 <= len(x.b))
	return 256*int(x.b[at]) + int(x.b[at+1])
}

// s tells a number that may be below 0.
func (x *asked) s(at int) int16 {
	n := x.w(at)
	if n >= 32768 {
		n -= 65536
	}
	return int16(n)
}

// coverage tells the glyphs of one, by chapter 6.
func (x *asked) coverage(at int) []uint16 {
	var l []uint16
	format, n := x.w(at), x.w(at+2)
	holds(format == 1 || format == 2)
	for i := range n {
		first, last := 0, 0
		if format == 1 {
			first = x.w(at + 4 + 2*i)
			last = first
		} else {
			first, last = x.w(at+4+6*i), x.w(at+6+6*i)
			holds(x.w(at+8+6*i) == len(l) && first <= last)
		}
		holds((len(l) == 0 || first > int(l[len(l)-1])) && last < x.glyphs)
		for g := first; g <= last; g++ {
			l = append(l, uint16(g))
		}
	}
	holds(len(l) >= 1 && len(l) <= 65535)
	x.counted += len(l)
	return l
}

// sub tells a subtable, by the chapter's table.
func (x *asked) sub(kind, at int) (p api.Pos) {
	holds((kind == 2 || kind == 4 || kind == 6) && x.w(at) == 1)
	if kind == 2 {
		x.pairs(&p, at)
		return p
	}
	x.points(&p, at)
	return p
}

func (x *asked) pairs(p *api.Pos, at int) {
	holds(x.w(at+4) == 4 && x.w(at+6) == 0)
	from := x.coverage(at + x.w(at+2))
	holds(x.w(at+8) == len(from))
	for i, g := range from {
		row := at + x.w(at+10+2*i)
		k := x.w(row)
		holds(k >= 1)
		for j := range k {
			kern := api.Kern{A: g, B: uint16(x.w(row + 2 + 4*j)), X: x.s(row + 4 + 4*j)}
			holds(int(kern.B) < x.glyphs && (j == 0 || kern.B > p.Kerns[len(p.Kerns)-1].B))
			p.Kerns = append(p.Kerns, kern)
			x.counted++
		}
	}
}

func (x *asked) points(p *api.Pos, at int) {
	m, b, n := x.coverage(at+x.w(at+2)), x.coverage(at+x.w(at+4)), x.w(at+6)
	markList, baseList := at+x.w(at+8), at+x.w(at+10)
	holds(n >= 1 && x.w(markList) == len(m) && x.w(baseList) == len(b))
	for i, g := range m {
		class, place := x.w(markList+2+4*i), x.w(markList+4+4*i)
		holds(class < n)
		a := x.point(markList + place)
		p.Marks = append(p.Marks, api.Mark{Glyph: g, Class: uint16(class), X: a.X, Y: a.Y})
		x.counted++
	}
	for i, g := range b {
		base := api.Base{Glyph: g}
		for j := range n {
			place := x.w(baseList + 2 + 2*(i*n+j))
			a := api.Anchor{}
			if place > 0 {
				a = x.point(baseList + place)
			}
			base.Anchors = append(base.Anchors, a)
			x.counted++
		}
		p.Bases = append(p.Bases, base)
	}
}

func (x *asked) point(at int) api.Anchor {
	holds(x.w(at) == 1)
	return api.Anchor{Has: true, X: x.s(at + 2), Y: x.s(at + 4)}
}

func (x *asked) lookup(at int) api.Lookup {
	kind, flag, k := x.w(at), x.w(at+2), x.w(at+4)
	holds(flag < 16 && k >= 1 && k <= 256)
	l := api.Lookup{Type: uint16(kind), Flag: uint16(flag / 2 * 2)}
	x.counted = 0
	for i := range k {
		l.Poss = append(l.Poss, x.sub(kind, at+x.w(at+6+2*i)))
	}
	holds(x.counted <= 65536)
	return l
}

func (x *asked) feature(list, i int) api.Feature {
	record := list + 2 + 6*i
	at := list + x.w(record+4)
	var f api.Feature
	copy(f.Tag[:], x.b[record:])
	holds(x.w(at) == 0)
	for i := range x.w(at + 2) {
		f.Lookups = append(f.Lookups, x.w(at+4+2*i))
		holds(f.Lookups[i] < x.lookups)
	}
	slices.Sort(f.Lookups)
	f.Lookups = slices.Compact(f.Lookups)
	return f
}

// byWords tells what a table is, as the chapters' words say.
func byWords(b []byte, glyphs int) (lookups []api.Lookup, features []api.Feature, ok bool) {
	defer func() {
		if gone := recover(); gone != nil {
			_ = gone.(notSo)
			lookups, features, ok = nil, nil, false
		}
	}()
	x := &asked{b: b, glyphs: glyphs}
	holds(x.w(0) == 1 && x.w(2) == 0)
	x.w(4)
	list, named := x.w(8), x.w(6)
	x.lookups = x.w(list)
	holds(x.lookups <= 256)
	for i := range x.lookups {
		lookups = append(lookups, x.lookup(list+x.w(list+2+2*i)))
	}
	holds(x.w(named) <= 512)
	for i := range x.w(named) {
		features = append(features, x.feature(named, i))
	}
	return lookups, features, true
}

// asWords: does Parse tell what the words say? Tells whether it is a table.
func asWords(t *testing.T, b []byte, glyphs int) bool {
	t.Helper()
	want, named, ok := byWords(b, glyphs)
	wrong := api.ErrFont
	if ok {
		wrong = api.OK
	}
	l, features, e := gpos.Parse(bin.Open(b), glyphs)
	if e != wrong || !slices.EqualFunc(l, want, sameAnswer) || !slices.EqualFunc(features, named, sameFeature) || !ok && (l != nil || features != nil) {
		t.Fatalf("%d bytes, %d .., of %d glyphs: %d lookups, %v %d, want %d lookups, %v %t", len(b), b[:min(len(b), 300)], glyphs, len(l), features, e, len(want), named, ok)
	}
	return ok
}
