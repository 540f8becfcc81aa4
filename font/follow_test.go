package font_test

import (
	"fmt"
	"math/rand"
	"slices"
	"testing"

	"calamus/api"
	"calamus/font"
)

// anySub tells a lookup of a GSUB, of glyphs below n.
func anySub(r *rand.Rand, n int) block {
	g := func() int { return r.Intn(n) }
	switch r.Intn(5) {
	case 0:
		return lookup(1, r.Intn(16), block{1, glyphs(g()), r.Intn(n)})
	case 1:
		return lookup(2, r.Intn(16), block{1, glyphs(g()), 1, row(g(), g())})
	case 2:
		return lookup(3, r.Intn(16), block{1, glyphs(g()), 1, row(g())})
	case 3:
		return lookup(4, r.Intn(16), block{1, glyphs(g()), 1, row(block{g(), 3, g(), g()}, block{g(), 1})})
	}
	return lookup(6, r.Intn(16), join(block{3}, row(glyphs(g())), row(glyphs(g()), glyphs(g())), row[block](), block{1, r.Intn(2), r.Intn(3)}))
}

// anyPos tells a lookup of a GPOS, of glyphs below n.
func anyPos(r *rand.Rand, n int) block {
	g := func() int { return r.Intn(n) }
	p := func() block { return point(r.Intn(65536), r.Intn(65536)) }
	if r.Intn(2) == 0 {
		return lookup(2, r.Intn(16), block{1, glyphs(g()), 4, 0, 1, block{1, g(), r.Intn(65536)}})
	}
	return lookup(4+2*r.Intn(2), r.Intn(16), block{1, glyphs(g()), glyphs(g()), 2, block{1, r.Intn(2), p()}, block{1, 0, p()}})
}

// anyTable tells a GSUB or a GPOS.
func anyTable(r *rand.Rand, n int, one func(*rand.Rand, int) block) []byte {
	var lookups, features []block
	for range 1 + r.Intn(3) {
		lookups = append(lookups, one(r, n))
	}
	for range r.Intn(3) {
		features = append(features, feature("liga", r.Perm(len(lookups))...))
	}
	return lookupTable(features, lookups...)
}

// anyParts tells the tables of a font; some speak of a few glyphs too many.
func anyParts(r *rand.Rand) parts {
	n := 1 + r.Intn(20)
	some := n
	if r.Intn(6) == 0 {
		some += 1 + r.Intn(2)
	}
	measured := 1 + r.Intn(n)
	advances := make([]int, measured)
	for i := range advances {
		advances[i] = r.Intn(65536)
	}
	p := parts{
		"head": aHead(16 + r.Intn(16369)),
		"hhea": anHhea(r.Intn(65536), r.Intn(65536), measured),
		"hmtx": anHmtx(n-measured, advances...),
		"maxp": aMaxp(n),
		"name": {byte(n)},
	}
	first, length, glyph := r.Intn(60000), r.Intn(some), r.Intn(some)
	if r.Intn(2) == 0 {
		p["cmap"] = planeMap(first, first+min(length, some-1-glyph), glyph)
	} else {
		p["cmap"] = wholeMap(first, first+min(length, some-1-glyph), glyph, 70000, 70000, r.Intn(some))
	}
	if r.Intn(2) == 0 {
		p["GDEF"] = aGDEF(block{1, 0, some, r.Intn(5)})
		p["GDEF"] = append(p["GDEF"], make([]byte, 2*some-2)...)
	}
	if r.Intn(2) == 0 {
		p["GSUB"] = anyTable(r, some, anySub)
	}
	if r.Intn(2) == 0 {
		p["GPOS"] = anyTable(r, some, anyPos)
	}
	return p
}

// glyphsTold tells all glyphs that a font tells of.
func glyphsTold(f api.Font) []uint16 {
	var l []uint16
	for _, m := range f.Maps {
		l = append(l, m.Glyph)
	}
	for _, x := range f.Subs {
		for _, s := range x.Subs {
			l = append(l, slices.Concat(slices.Concat(s.Back...), slices.Concat(s.In...), slices.Concat(s.Ahead...))...)
			for _, p := range s.Pairs {
				l = append(l, p.From, p.To)
			}
			for _, m := range s.Manys {
				l = append(append(l, m.From), m.To...)
			}
			for _, g := range s.Ligs {
				l = append(append(l, g.To), g.Parts...)
			}
		}
	}
	for _, x := range f.Poss {
		for _, p := range x.Poss {
			for _, k := range p.Kerns {
				l = append(l, k.A, k.B)
			}
			for _, m := range p.Marks {
				l = append(l, m.Glyph)
			}
			for _, b := range p.Bases {
				l = append(l, b.Glyph)
			}
		}
	}
	return l
}

// lookupsThere: are all lookups of these features, and of subtables' records, there?
func lookupsThere(features []api.Feature, lookups []api.Lookup) bool {
	there := func(n int) bool { return n >= 0 && n < len(lookups) }
	ok := true
	for _, f := range features {
		for _, n := range f.Lookups {
			ok = ok && there(n)
		}
	}
	for _, l := range lookups {
		for _, s := range l.Subs {
			for _, x := range s.Records {
				ok = ok && there(x.Lookup)
			}
		}
	}
	return ok
}

// follows: is of a font that was read all as P9.4 says?
func follows(t *testing.T, f api.Font) {
	t.Helper()
	n := len(f.Advances)
	ok := n >= 1 && len(f.Classes) == n && lookupsThere(f.SubFeats, f.Subs) && lookupsThere(f.PosFeats, f.Poss)
	for _, g := range glyphsTold(f) {
		ok = ok && int(g) < n
	}
	if !ok {
		t.Fatalf("%s", told(f))
	}
}

// P9.4, P9.1: fonts of all kinds, and what is nearly one.
func TestAtRandom(t *testing.T) {
	r := rand.New(rand.NewSource(94))
	right, none := 0, 0
	for i := range 20000 {
		p := anyParts(r)
		name := append(needed(), allowed()...)[r.Intn(8)]
		if b := p[name]; r.Intn(4) == 0 && len(b) > 0 {
			b[r.Intn(len(b))] += byte(r.Intn(5) - 2)
		}
		if !asLayers(t, fmt.Sprintf("the font %d", i), p) {
			none++
			continue
		}
		right++
		f, _ := font.Read(p.bytes())
		follows(t, f)
	}
	if right < 5000 || none < 2000 {
		t.Errorf("%d fonts, %d others", right, none)
	}
	for _, p := range []parts{whole(), plain()} {
		f, _ := font.Read(p.bytes())
		follows(t, f)
	}
}

// P9.1: the same bytes have the same answer.
func TestSameAgain(t *testing.T) {
	r := rand.New(rand.NewSource(91))
	for range 1000 {
		b := anyParts(r).bytes()
		f, e := font.Read(b)
		for range 3 {
			if again, x := font.Read(b); e != x || !same(again, f) {
				t.Fatalf("%s %d, then %s %d", told(f), e, told(again), x)
			}
		}
	}
}

// P9.1: any bytes end, and are none.
func TestAnyBytes(t *testing.T) {
	r := rand.New(rand.NewSource(90))
	for range 20000 {
		b := make([]byte, r.Intn(100))
		for i := range b {
			b[i] = byte(r.Intn(256))
		}
		if len(b) > 6 {
			copy(b, []byte{0, 1, 0, 0, 0, byte(r.Intn(6))})
		}
		isNone(t, fmt.Sprint(b), b)
	}
}
