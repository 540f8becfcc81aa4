package cover_test

import (
	"math"
	"math/rand"
	"slices"
	"testing"

	"calamus/api"
	"calamus/bin"
	"calamus/cover"
)

// rangeGlyphs tells the glyphs of ranges, with the number of each: first, last,
// number.
func rangeGlyphs(ranges []int) (glyphs, numbers []int, ok bool) {
	for i := 0; i < len(ranges); i += 3 {
		if ranges[i] > ranges[i+1] || i > 0 && ranges[i] <= ranges[i-2] {
			return nil, nil, false
		}
		for g := ranges[i]; g <= ranges[i+1]; g++ {
			glyphs, numbers = append(glyphs, g), append(numbers, ranges[i+2])
		}
	}
	return glyphs, numbers, true
}

// coverageByWords tells the glyphs of a coverage, as the chapter's words say.
func coverageByWords(b []byte, at, glyphs int) ([]uint16, bool) {
	format, ok := wordsAt(b, at, 1)
	if !ok {
		return nil, false
	}
	var l []int
	switch format[0] {
	case 1:
		l, ok = counted(b, at+2, 1)
	case 2:
		var ranges []int
		if ranges, ok = counted(b, at+2, 3); ok {
			l, _, ok = rangeGlyphs(ranges)
		}
		for i := 0; ok && i < len(ranges); i += 3 {
			ok = slices.Index(l, ranges[i]) == ranges[i+2]
		}
	default:
		return nil, false
	}
	if !ok || len(l) == 0 || len(l) > 65535 {
		return nil, false
	}
	var out []uint16
	for i, g := range l {
		if i > 0 && g <= l[i-1] || g >= glyphs {
			return nil, false
		}
		out = append(out, uint16(g))
	}
	return out, true
}

// sameCoverage: does Coverage tell what the words say? Tells whether it is one.
func sameCoverage(t *testing.T, b []byte, at, glyphs int) bool {
	t.Helper()
	want, ok := coverageByWords(b, at, glyphs)
	if l, e := cover.Coverage(bin.Open(b), at, glyphs); !slices.Equal(l, want) || e != numberOf(ok) || !ok && l != nil {
		t.Fatalf("%d at %d of %d glyphs: %d %d, want %d %t", b, at, glyphs, l, e, want, ok)
	}
	return ok
}

// P6.1: the chapter's examples, and others by hand.
func TestCoverageByHand(t *testing.T) {
	isCoverage(t, "the first example", []byte{0, 1, 0, 2, 0, 5, 0, 9}, 10, 5, 9)
	isCoverage(t, "the second example", []byte{0, 2, 0, 1, 0, 5, 0, 7, 0, 0}, 10, 5, 6, 7)
	isCoverage(t, "two ranges", words(2, 2, 1, 2, 0, 5, 5, 2), 6, 1, 2, 5)
	isCoverage(t, "ranges side by side", words(2, 3, 0, 0, 0, 1, 2, 1, 3, 3, 3), 4, 0, 1, 2, 3)
	isCoverage(t, "high ones", words(1, 3, 0, 32768, 65535), 65536, 0, 32768, 65535)
	isCoverage(t, "a high range", words(2, 2, 255, 257, 0, 65534, 65535, 3), 65536, 255, 256, 257, 65534, 65535)
	isCoverage(t, "more behind", words(1, 1, 3, 2, 9, 9), 10, 3)
	isCoverage(t, "more behind ranges", words(2, 1, 3, 4, 0, 1, 1, 1), 10, 3, 4)
}

// P6.1: what is wrong of either format.
func TestCoverageWrong(t *testing.T) {
	isNoCoverage(t, "no format 0", words(0, 1, 3), 10)
	isNoCoverage(t, "no format 3", words(3, 1, 3, 4, 0), 10)
	isNoCoverage(t, "no format 257", words(257, 1, 3), 10)
	isNoCoverage(t, "none", words(1, 0), 10)
	isNoCoverage(t, "none, though some are behind", words(1, 0, 3), 10)
	isNoCoverage(t, "no ranges", words(2, 0), 10)
	isNoCoverage(t, "alike", words(1, 2, 5, 5), 10)
	isNoCoverage(t, "falling", words(1, 2, 9, 5), 10)
	isNoCoverage(t, "falling at the end", words(1, 3, 5, 7, 6), 10)
	isNoCoverage(t, "not right", words(1, 2, 5, 10), 10)
	isNoCoverage(t, "too few", words(1, 3, 5, 6), 10)
	isNoCoverage(t, "half a glyph", append(words(1, 2, 5), 0), 10)
	isNoCoverage(t, "a range that falls", words(2, 1, 6, 5, 0), 10)
	isNoCoverage(t, "ranges that share a glyph", words(2, 2, 1, 3, 0, 3, 5, 3), 10)
	isNoCoverage(t, "ranges that fall", words(2, 2, 5, 6, 0, 1, 2, 2), 10)
	isNoCoverage(t, "a range within another", words(2, 2, 1, 8, 0, 3, 4, 8), 10)
	isNoCoverage(t, "a range that is not right", words(2, 1, 5, 10, 0), 10)
	isNoCoverage(t, "a wrong first number", words(2, 1, 5, 6, 1), 10)
	isNoCoverage(t, "a wrong number, too low", words(2, 2, 1, 2, 0, 5, 5, 1), 10)
	isNoCoverage(t, "a wrong number, too high", words(2, 2, 1, 2, 0, 5, 5, 3), 10)
	isNoCoverage(t, "too few ranges", words(2, 2, 1, 2, 0, 5, 5), 10)
}

// P6.1: which glyphs are right; no glyph is, of no glyphs or of fewer.
func TestCoverageOfGlyphs(t *testing.T) {
	for _, b := range [][]byte{words(1, 1, 3), words(2, 1, 3, 3, 0), words(1, 2, 0, 3), words(2, 1, 0, 3, 0), words(1, 1, 65535), words(2, 1, 65535, 65535, 0), words(1, 1, 0), words(2, 1, 0, 0, 0)} {
		for _, glyphs := range []int{math.MinInt, -65536, -1, 0, 1, 2, 3, 4, 5, 255, 65534, 65535, 65536, 65537, 1 << 32, math.MaxInt} {
			sameCoverage(t, b, 0, glyphs)
		}
	}
}

// P6.1: as many glyphs as there may be, and one more.
func TestCoverageMost(t *testing.T) {
	var all []int
	for g := range 65536 {
		all = append(all, g)
	}
	for _, glyphs := range []int{65534, 65535, 65536, 1 << 40} {
		sameCoverage(t, words(append([]int{1, 65535}, all[:65535]...)...), 0, glyphs)
		sameCoverage(t, words(append([]int{1, 65535}, all[1:]...)...), 0, glyphs)
	}
	for _, last := range []int{65533, 65534, 65535} {
		l, e := cover.Coverage(bin.Open(words(2, 1, 0, last, 0)), 0, 65536)
		if last < 65535 && (e != api.OK || len(l) != last+1 || l[last] != uint16(last)) || last == 65535 && (e != api.ErrFont || l != nil) {
			t.Errorf("from 0 to %d: %d glyphs, %d", last, len(l), e)
		}
	}
	isNoCoverage(t, "two ranges of 65536", words(2, 2, 0, 9999, 0, 10000, 65535, 10000), 65536)
	if l, e := cover.Coverage(bin.Open(words(2, 2, 0, 9999, 0, 10001, 65535, 10000)), 0, 65536); e != api.OK || len(l) != 65535 || l[65534] != 65535 || l[10000] != 10001 {
		t.Errorf("two ranges of 65535: %d glyphs, %d", len(l), e)
	}
	var ranges []int
	for i := range 32768 {
		ranges = append(ranges, 2*i, 2*i, i)
	}
	if l, e := cover.Coverage(bin.Open(words(append([]int{2, 32768}, ranges...)...)), 0, 65536); e != api.OK || len(l) != 32768 || l[32767] != 65534 {
		t.Errorf("32768 ranges: %d glyphs, %d", len(l), e)
	}
}

// P6.1: each byte, whatever it is; every length.
func TestCoverageOfBytes(t *testing.T) {
	for _, b := range [][]byte{words(1, 3, 2, 5, 258), words(2, 2, 1, 3, 0, 5, 258, 3), words(2, 1, 7, 7, 0), words(1, 1, 0)} {
		for _, glyphs := range []int{259, 65536} {
			everyByte(b, func(b []byte) { sameCoverage(t, b, 0, glyphs) })
		}
	}
}

// P6.1: at other places; at those where nothing is.
func TestCoverageAtPlaces(t *testing.T) {
	for _, b := range [][]byte{words(1, 2, 5, 9), words(2, 2, 1, 2, 0, 5, 5, 2)} {
		want, _ := coverageByWords(b, 0, 10)
		for n := range 9 {
			if l, e := cover.Coverage(behind(b, n), n, 10); e != api.OK || !slices.Equal(l, want) {
				t.Errorf("%d at %d: %d %d", b, n, l, e)
			}
		}
		for at := -8; at < len(b)+8; at++ {
			sameCoverage(t, b, at, 10)
		}
		for _, at := range farPlaces() {
			sameCoverage(t, b, at, 10)
		}
	}
}

// P6.1: no reader, a bad one, one that is made by hand.
func TestCoverageOfNone(t *testing.T) {
	for _, b := range [][]byte{words(1, 2, 5, 9), words(2, 1, 5, 7, 0)} {
		for i, r := range noReaders(b) {
			if l, e := cover.Coverage(r, 0, 10); l != nil || e != api.ErrFont {
				t.Errorf("%d: %d %d", i, l, e)
			}
		}
	}
}

// someCoverage tells the bytes of one of either format, at times with a fault.
func someCoverage(r *rand.Rand) []byte {
	n, g, before := 1+r.Intn(5), r.Intn(3), 0
	l := []int{1 + r.Intn(2), n}
	for range n {
		last := g + r.Intn(4)*(l[0]-1)
		if l[0] == 1 {
			l = append(l, g)
		} else {
			l = append(l, g, last, before)
			before += last - g + 1
		}
		g = last + 1 + r.Intn(3)
	}
	if r.Intn(2) == 0 {
		l[r.Intn(len(l))] += r.Intn(3) - 1
	}
	return words(l...)
}

// P6.1: coverages of all kinds, and what is nearly one.
func TestCoverageAtRandom(t *testing.T) {
	r := rand.New(rand.NewSource(61))
	right := 0
	for range 60000 {
		if sameCoverage(t, someCoverage(r), r.Intn(8)/7*2, 8+r.Intn(20)) {
			right++
		}
		sameCoverage(t, append(words(1+r.Intn(2)), someWords(r, r.Intn(12), 4)...), 0, 1+r.Intn(6))
	}
	if right < 10000 || right > 50000 {
		t.Errorf("%d of 60000 are coverages", right)
	}
}
