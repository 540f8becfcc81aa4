package sfnt_test

import (
	"math/rand"
	"slices"
	"strconv"
	"testing"

	"calamus/api"
	"calamus/bin"
	"calamus/sfnt"
)

// changed tells b with numbers of so many bytes put at places: place, size, number.
func changed(b []byte, numbers ...[3]int) []byte {
	b = slices.Clone(b)
	for _, x := range numbers {
		copy(b[x[0]:], put("bWL"[x[1]/2:x[1]/2+1], x[2]))
	}
	return b
}

// aHead is a table head of 1000 units; what is not looked at is 255.
func aHead() []byte {
	b := slices.Repeat([]byte{255}, 54)
	return changed(b, [3]int{0, 4, 65536}, [3]int{12, 4, 1594834165}, [3]int{18, 2, 1000}, [3]int{50, 2, 1})
}

func sameHead(t *testing.T, b []byte) {
	t.Helper()
	want, _ := numberAt(b, 18, 2)
	wrong := api.OK
	if len(b) != 54 || !is(b, 0, 4, 65536) || !is(b, 12, 4, 1594834165) || want < 16 || want > 16384 || !is(b, 50, 2, 0) && !is(b, 50, 2, 1) {
		want, wrong = 0, api.ErrFont
	}
	if n, e := sfnt.Head(bin.Open(b)); int(n) != want || e != wrong {
		t.Errorf("%d: %d %d, want %d %d", b, n, e, want, wrong)
	}
}

// P5.3, by hand.
func TestHeadByHand(t *testing.T) {
	if n, e := sfnt.Head(bin.Open(aHead())); n != 1000 || e != api.OK {
		t.Errorf("%d %d", n, e)
	}
	for n, want := range map[int]api.Errno{0: api.ErrFont, 15: api.ErrFont, 16: api.OK, 17: api.OK, 2048: api.OK, 16383: api.OK, 16384: api.OK, 16385: api.ErrFont, 32768: api.ErrFont, 65535: api.ErrFont} {
		if units, e := sfnt.Head(bin.Open(changed(aHead(), [3]int{18, 2, n}))); e != want || e == api.OK && int(units) != n || e != api.OK && units != 0 {
			t.Errorf("%d units: %d %d", n, units, e)
		}
	}
	for n, want := range map[int]api.Errno{-32768: api.ErrFont, -1: api.ErrFont, 0: api.OK, 1: api.OK, 2: api.ErrFont, 256: api.ErrFont} {
		if units, e := sfnt.Head(bin.Open(changed(aHead(), [3]int{50, 2, n}))); e != want || e != api.OK && units != 0 {
			t.Errorf("%d at 50: %d %d", n, units, e)
		}
	}
}

// P5.3: each byte, whatever it is; every length.
func TestHead(t *testing.T) {
	for at := range 54 {
		for n := range 256 {
			sameHead(t, changed(aHead(), [3]int{at, 1, n}))
		}
	}
	for n := range 54 {
		sameHead(t, aHead()[:n])
	}
	sameHead(t, append(aHead(), 0))
	sameHead(t, append(aHead(), aHead()...))
}

// P5.3: no reader, a bad one, one that is made by hand.
func TestHeadOfNone(t *testing.T) {
	bad := bin.Open(aHead())
	bad.Byte(54)
	part := bin.Open(append(aHead(), 0))
	its := part.Part(0, 54)
	if n, e := sfnt.Head(its); n != 1000 || e != api.OK {
		t.Errorf("a part: %d %d", n, e)
	}
	part.Byte(-1)
	for i, r := range []*bin.Reader{nil, bad, its, new(bin.Reader)} {
		if n, e := sfnt.Head(r); n != 0 || e != api.ErrFont {
			t.Errorf("%d: %d %d", i, n, e)
		}
	}
}

// plain is the bytes of the three tables that tell widths.
type plain struct{ maxp, hhea, hmtx []byte }

// aPlain tells tables of so many glyphs, of which the first ones have advances
// of their own: 10000 and so on. What is not looked at is 255.
func aPlain(glyphs, measured int) plain {
	p := plain{put("LW", 20480, glyphs), slices.Repeat([]byte{255}, 36), nil}
	p.hhea = changed(p.hhea, [3]int{0, 4, 65536}, [3]int{4, 2, 800}, [3]int{6, 2, -200}, [3]int{34, 2, measured})
	for i := range measured {
		p.hmtx = append(p.hmtx, put("WW", 10000+i, 65535)...)
	}
	p.hmtx = append(p.hmtx, slices.Repeat([]byte{255}, 2*(glyphs-measured))...)
	return p
}

// long is the maxp of the other kind.
func long(glyphs int) []byte {
	return append(put("LW", 65536, glyphs), slices.Repeat([]byte{255}, 26)...)
}

// widths is what Widths answers.
type widths struct {
	advances        []uint16
	ascent, descent int16
	e               api.Errno
}

func (w widths) equal(other widths) bool {
	return slices.Equal(w.advances, other.advances) && w.ascent == other.ascent && w.descent == other.descent && w.e == other.e
}

func told(p plain) widths {
	l, ascent, descent, e := sfnt.Widths(bin.Open(p.maxp), bin.Open(p.hhea), bin.Open(p.hmtx))
	return widths{l, ascent, descent, e}
}

// byWords tells what Widths has to answer, as the chapter's words say.
func (p plain) byWords() widths {
	none := widths{e: api.ErrFont}
	glyphs, _ := numberAt(p.maxp, 4, 2)
	measured, _ := numberAt(p.hhea, 34, 2)
	if !(is(p.maxp, 0, 4, 20480) && len(p.maxp) == 6) && !(is(p.maxp, 0, 4, 65536) && len(p.maxp) == 32) || glyphs < 1 {
		return none
	}
	if len(p.hhea) != 36 || !is(p.hhea, 0, 4, 65536) || measured < 1 || measured > glyphs || len(p.hmtx) != 2*measured+2*glyphs {
		return none
	}
	ascent, _ := numberAt(p.hhea, 4, 2)
	descent, _ := numberAt(p.hhea, 6, 2)
	w := widths{ascent: int16(ascent), descent: int16(descent)}
	for i := range glyphs {
		n, _ := numberAt(p.hmtx, 4*min(i, measured-1), 2)
		w.advances = append(w.advances, uint16(n))
	}
	return w
}

func sameWidths(t *testing.T, what string, p plain) {
	t.Helper()
	if w, want := told(p), p.byWords(); !w.equal(want) || w.e != api.OK && w.advances != nil {
		t.Errorf("%s: %v, want %v", what, w, want)
	}
}

// P5.4: the chapter's example, and others by hand.
func TestWidthsByHand(t *testing.T) {
	p := aPlain(2, 1)
	p.hmtx = []byte{1, 244, 0, 0, 0, 5}
	if w := told(p); !w.equal(widths{[]uint16{500, 500}, 800, -200, api.OK}) {
		t.Errorf("the example: %v", w)
	}
	if w := told(aPlain(5, 3)); !w.equal(widths{[]uint16{10000, 10001, 10002, 10002, 10002}, 800, -200, api.OK}) {
		t.Errorf("three of five: %v", w)
	}
	p = aPlain(1, 1)
	p.maxp, p.hhea, p.hmtx = long(1), changed(p.hhea, [3]int{4, 2, -32768}, [3]int{6, 2, 32767}), []byte{255, 255, 0, 0}
	if w := told(p); !w.equal(widths{[]uint16{65535}, -32768, 32767, api.OK}) {
		t.Errorf("one glyph: %v", w)
	}
}

// P5.4: how many glyphs there are, and how many have advances of their own.
func TestWidthsOfNumbers(t *testing.T) {
	for glyphs := range 8 {
		for measured := range 8 {
			p := aPlain(glyphs, min(glyphs, measured))
			p.hhea = changed(p.hhea, [3]int{34, 2, measured})
			what := strconv.Itoa(measured) + " of " + strconv.Itoa(glyphs)
			sameWidths(t, what, p)
			p.maxp = long(glyphs)
			sameWidths(t, what, p)
			p.hmtx = slices.Repeat([]byte{1, 2, 3}, 20)
			for size := range p.hmtx {
				sameWidths(t, what, plain{p.maxp, p.hhea, p.hmtx[:size]})
			}
		}
	}
	for _, measured := range []int{1, 2, 32767, 32768, 65534, 65535} {
		p := aPlain(65535, measured)
		if w := p.byWords(); w.e != api.OK || len(w.advances) != 65535 {
			t.Errorf("%d of 65535: %d", measured, w.e)
		}
		sameWidths(t, strconv.Itoa(measured)+" of 65535", p)
		p.hmtx = append(p.hmtx, 0, 0)
		sameWidths(t, "more than 65535", p)
	}
}

// P5.4: each byte of maxp and hhea, whatever it is; every length.
func TestWidthsOfBytes(t *testing.T) {
	p := aPlain(3, 2)
	for n := range 256 {
		for at := range p.hhea {
			sameWidths(t, "hhea", plain{p.maxp, changed(p.hhea, [3]int{at, 1, n}), p.hmtx})
		}
		for at := range p.maxp {
			sameWidths(t, "maxp", plain{changed(p.maxp, [3]int{at, 1, n}), p.hhea, p.hmtx})
		}
		for at := range long(3) {
			sameWidths(t, "a long maxp", plain{changed(long(3), [3]int{at, 1, n}), p.hhea, p.hmtx})
		}
		for at := range p.hmtx {
			sameWidths(t, "hmtx", plain{p.maxp, p.hhea, changed(p.hmtx, [3]int{at, 1, n})})
		}
	}
	maxps := append(slices.Clone(p.maxp), make([]byte, 40)...)
	longs := append(long(3), make([]byte, 10)...)
	for n := range 42 {
		sameWidths(t, "maxp's length", plain{maxps[:n], p.hhea, p.hmtx})
		sameWidths(t, "a long maxp's length", plain{longs[:n], p.hhea, p.hmtx})
		sameWidths(t, "hhea's length", plain{p.maxp, append(slices.Clone(p.hhea), make([]byte, 6)...)[:n], p.hmtx})
	}
}

// P5.4: advances of all kinds.
func TestWidthsAtRandom(t *testing.T) {
	r := rand.New(rand.NewSource(54))
	for range 2000 {
		glyphs := 1 + r.Intn(40)
		p := aPlain(glyphs, 1+r.Intn(glyphs))
		p.hmtx = anyBytes(r, len(p.hmtx)+r.Intn(2)*r.Intn(4))
		sameWidths(t, "at random", p)
	}
}

// P5.4: no readers, bad ones, parts of one reader.
func TestWidthsOfNone(t *testing.T) {
	p := aPlain(3, 2)
	whole := slices.Concat(p.maxp, p.hhea, p.hmtx)
	parts := func() (*bin.Reader, [3]*bin.Reader) {
		r := bin.Open(whole)
		return r, [3]*bin.Reader{r.Part(0, 6), r.Part(6, 36), r.Part(42, len(p.hmtx))}
	}
	_, l := parts()
	if advances, _, _, e := sfnt.Widths(l[0], l[1], l[2]); e != api.OK || !slices.Equal(advances, []uint16{10000, 10001, 10001}) {
		t.Errorf("parts: %d %d", advances, e)
	}
	r, bad := parts()
	r.Byte(-1)
	for i := range 3 {
		for what, one := range map[string]*bin.Reader{"none": nil, "bad": bad[i], "by hand": new(bin.Reader)} {
			_, l := parts()
			l[i] = one
			if advances, ascent, descent, e := sfnt.Widths(l[0], l[1], l[2]); advances != nil || ascent != 0 || descent != 0 || e != api.ErrFont {
				t.Errorf("%s at %d: %d %d %d %d", what, i, advances, ascent, descent, e)
			}
		}
	}
	if _, _, _, e := sfnt.Widths(nil, nil, nil); e != api.ErrFont {
		t.Errorf("nothing: %d", e)
	}
}
