package cover_test

import (
	"math"
	"math/rand"
	"slices"
	"testing"

	"calamus/api"
	"calamus/bin"
	"calamus/cover"
)

// words tells the bytes of numbers of two bytes each.
func words(l ...int) []byte {
	var b []byte
	for _, n := range l {
		b = append(b, byte(n>>8), byte(n))
	}
	return b
}

// wordsAt tells the n numbers of two bytes from a place on; false, if they are
// not all there.
func wordsAt(b []byte, at, n int) ([]int, bool) {
	if at < 0 || at > len(b) || 2*n > len(b)-at {
		return nil, false
	}
	l := []int{}
	for i := range n {
		l = append(l, 256*int(b[at+2*i])+int(b[at+2*i+1]))
	}
	return l, true
}

// counted tells the numbers behind the one that says how many there are, of
// which size numbers are one.
func counted(b []byte, at, size int) ([]int, bool) {
	n, ok := wordsAt(b, at, 1)
	if !ok {
		return nil, false
	}
	return wordsAt(b, at+2, size*n[0])
}

// farPlaces are places at which no reader has anything.
func farPlaces() []int {
	return []int{math.MinInt, math.MinInt + 1, math.MinInt + 2, math.MinInt / 2, -65536, -7, -6, -5, -4, -3, -2, -1,
		1 << 20, 1 << 32, 1 << 62, math.MaxInt / 2, math.MaxInt - 6, math.MaxInt - 5, math.MaxInt - 4, math.MaxInt - 3, math.MaxInt - 2, math.MaxInt - 1, math.MaxInt}
}

// noReaders are readers of which nothing is told, whatever they have: nil, bad
// ones, one that is made by hand.
func noReaders(b []byte) []*bin.Reader {
	bad := bin.Open(b)
	bad.Byte(len(b))
	whole := bin.Open(append(slices.Clone(b), 0))
	part := whole.Part(0, len(b))
	whole.Byte(-1)
	return []*bin.Reader{nil, bad, part, new(bin.Reader)}
}

// behind tells a reader that has so many bytes ahead of b, and some behind.
func behind(b []byte, n int) *bin.Reader {
	return bin.Open(slices.Concat(slices.Repeat([]byte{255}, n), b, []byte{0, 1, 2}))
}

// everyByte asks of b with each byte set to any number, and of each beginning
// of it.
func everyByte(b []byte, ask func(b []byte)) {
	for at := range b {
		changed := slices.Clone(b)
		for n := range 256 {
			changed[at] = byte(n)
			ask(changed)
		}
	}
	for n := range len(b) + 1 {
		ask(b[:n])
	}
}

// someWords tells n numbers, of which most are low.
func someWords(r *rand.Rand, n, low int) []byte {
	var b []byte
	for range n {
		n := r.Intn(low)
		if r.Intn(40) == 0 {
			n = r.Intn(65536)
		}
		b = append(b, words(n)...)
	}
	return b
}

// numberOf tells the error that a call has to answer.
func numberOf(ok bool) api.Errno {
	if ok {
		return api.OK
	}
	return api.ErrFont
}

// unchanged: has a reader its bytes, and is it not bad?
func unchanged(t *testing.T, what string, r *bin.Reader, b []byte) {
	t.Helper()
	if r.Bad() || !slices.Equal(r.Bytes(), b) {
		t.Errorf("%s: the reader is changed: %d, bad %t", what, r.Bytes(), r.Bad())
	}
}

func isCoverage(t *testing.T, what string, b []byte, glyphs int, want ...uint16) {
	t.Helper()
	if l, e := cover.Coverage(bin.Open(b), 0, glyphs); e != api.OK || !slices.Equal(l, want) {
		t.Errorf("%s: %d %d, want %d", what, l, e, want)
	}
}

func isNoCoverage(t *testing.T, what string, b []byte, glyphs int) {
	t.Helper()
	if l, e := cover.Coverage(bin.Open(b), 0, glyphs); e != api.ErrFont || l != nil {
		t.Errorf("%s: %d glyphs, %d, want ErrFont", what, len(l), e)
	}
}

func areClasses(t *testing.T, what string, b []byte, glyphs int, want ...uint8) {
	t.Helper()
	if l, e := cover.Classes(bin.Open(b), 0, glyphs); e != api.OK || !slices.Equal(l, want) {
		t.Errorf("%s: %d %d, want %d", what, l, e, want)
	}
}

func areNoClasses(t *testing.T, what string, b []byte, glyphs int) {
	t.Helper()
	if l, e := cover.Classes(bin.Open(b), 0, glyphs); e != api.ErrFont || l != nil {
		t.Errorf("%s: %d glyphs, %d, want ErrFont", what, len(l), e)
	}
}
