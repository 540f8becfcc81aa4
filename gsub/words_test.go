package gsub_test

import (
	"slices"
	"testing"

	"calamus/api"
	"calamus/bin"
	"calamus/gsub"
)

// asked is bytes of which the chapter's words are asked, one by one; what is not
// as they say ends all by a panic of notSo.
type asked struct {
	b       []byte
	glyphs  int
	lookups int
	counted int
}

type notSo struct{}

func holds(ok bool) {
	if !ok {
		panic(notSo{})
	}
}

func (x *asked) w(at int) int {
	holds(at >= 0 && at+2 <= len(x.b))
	return 256*int(x.b[at]) + int(x.b[at+1])
}

func (x *asked) glyph(at int) uint16 {
	g := x.w(at)
	holds(g < x.glyphs)
	return uint16(g)
}

// coverage tells the glyphs of one, by chapter 6.
func (x *asked) coverage(at int) []uint16 {
	var l []uint16
	format, n := x.w(at), x.w(at+2)
	holds(format == 1 || format == 2)
	for i := range n {
		first, last := 0, 0
		if format == 1 {
			first = x.w(at + 4 + 2*i)
			last = first
		} else {
			first, last = x.w(at+4+6*i), x.w(at+6+6*i)
			holds(x.w(at+8+6*i) == len(l) && first <= last)
		}
		holds((len(l) == 0 || first > int(l[len(l)-1])) && last < x.glyphs)
		for g := first; g <= last; g++ {
			l = append(l, uint16(g))
		}
	}
	holds(len(l) >= 1 && len(l) <= 65535)
	x.counted += len(l)
	return l
}

// sub tells a subtable, by the chapter's table.
func (x *asked) sub(kind, at int) (s api.Sub) {
	format := x.w(at)
	if kind == 6 {
		holds(format == 3)
		x.chain(&s, at)
		return s
	}
	holds(kind >= 1 && kind <= 4 && (format == 1 || format == 2 && kind == 1))
	from := x.coverage(at + x.w(at+2))
	holds(kind == 1 && format == 1 || x.w(at+4) == len(from))
	for i, g := range from {
		place := at + 6 + 2*i
		switch {
		case kind == 1 && format == 1:
			to := (int(g) + x.w(at+4)) % 65536
			holds(to < x.glyphs)
			s.Pairs = append(s.Pairs, api.Pair{From: g, To: uint16(to)})
			x.counted++
		case kind == 1:
			s.Pairs = append(s.Pairs, api.Pair{From: g, To: x.glyph(place)})
			x.counted++
		case kind == 4:
			x.ligatures(&s, g, at+x.w(place))
		default:
			x.row(&s, kind, g, at+x.w(place))
		}
	}
	return s
}

func (x *asked) row(s *api.Sub, kind int, g uint16, at int) {
	k := x.w(at)
	holds(k >= 1)
	var to []uint16
	for i := range k {
		to = append(to, x.glyph(at+2+2*i))
	}
	x.counted += k
	if kind == 2 {
		s.Manys = append(s.Manys, api.Many{From: g, To: to})
	} else {
		s.Pairs = append(s.Pairs, api.Pair{From: g, To: to[0]})
	}
}

func (x *asked) ligatures(s *api.Sub, g uint16, set int) {
	k := x.w(set)
	holds(k >= 1)
	for i := range k {
		at := set + x.w(set+2+2*i)
		m := x.w(at + 2)
		holds(m >= 1)
		l := api.Lig{Parts: []uint16{g}, To: x.glyph(at)}
		for j := range m - 1 {
			l.Parts = append(l.Parts, x.glyph(at+4+2*j))
		}
		s.Ligs = append(s.Ligs, l)
		x.counted += m + 1
	}
}

func (x *asked) chain(s *api.Sub, at int) {
	end := at + 2
	for _, sets := range []*[][]uint16{&s.Back, &s.In, &s.Ahead} {
		n := x.w(end)
		for i := range n {
			*sets = append(*sets, x.coverage(at+x.w(end+2+2*i)))
		}
		end += 2 + 2*n
	}
	holds(len(s.In) > 0)
	for i := range x.w(end) {
		record := api.Record{At: x.w(end + 2 + 4*i), Lookup: x.w(end + 4 + 4*i)}
		holds(record.At < len(s.In) && record.Lookup < x.lookups)
		s.Records = append(s.Records, record)
	}
}

func (x *asked) lookup(at int) api.Lookup {
	kind, flag, k := x.w(at), x.w(at+2), x.w(at+4)
	holds(flag < 16 && k >= 1 && k <= 256)
	l := api.Lookup{Type: uint16(kind), Flag: uint16(flag / 2 * 2)}
	x.counted = 0
	for i := range k {
		l.Subs = append(l.Subs, x.sub(kind, at+x.w(at+6+2*i)))
	}
	holds(x.counted <= 65536)
	return l
}

func (x *asked) feature(list, i int) api.Feature {
	record := list + 2 + 6*i
	at := list + x.w(record+4)
	var f api.Feature
	copy(f.Tag[:], x.b[record:])
	holds(x.w(at) == 0)
	for i := range x.w(at + 2) {
		f.Lookups = append(f.Lookups, x.w(at+4+2*i))
		holds(f.Lookups[i] < x.lookups)
	}
	slices.Sort(f.Lookups)
	f.Lookups = slices.Compact(f.Lookups)
	return f
}

// byWords tells what a table is, as the chapters' words say.
func byWords(b []byte, glyphs int) (lookups []api.Lookup, features []api.Feature, ok bool) {
	defer func() {
		if gone := recover(); gone != nil {
			_ = gone.(notSo)
			lookups, features, ok = nil, nil, false
		}
	}()
	x := &asked{b: b, glyphs: glyphs}
	holds(x.w(0) == 1 && x.w(2) == 0)
	x.w(4)
	list, named := x.w(8), x.w(6)
	x.lookups = x.w(list)
	holds(x.lookups <= 256)
	for i := range x.lookups {
		lookups = append(lookups, x.lookup(list+x.w(list+2+2*i)))
	}
	holds(x.w(named) <= 512)
	for i := range x.w(named) {
		features = append(features, x.feature(named, i))
	}
	return lookups, features, true
}

// asWords: does Parse tell what the words say? Tells whether it is a table.
func asWords(t *testing.T, b []byte, glyphs int) bool {
	t.Helper()
	want, named, ok := byWords(b, glyphs)
	wrong := api.ErrFont
	if ok {
		wrong = api.OK
	}
	l, features, e := gsub.Parse(bin.Open(b), glyphs)
	if e != wrong || !slices.EqualFunc(l, want, sameAnswer) || !slices.EqualFunc(features, named, sameFeature) || !ok && (l != nil || features != nil) {
		t.Fatalf("%d of %d glyphs: %v %v %d, want %v %v %t", b, glyphs, l, features, e, want, named, ok)
	}
	return ok
}
