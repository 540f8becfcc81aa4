package bin_test

import (
	"math"
	"slices"
	"testing"

	"calamus/bin"
)

// places are those around a row of n bytes, and far from it.
func places(n int) []int {
	l := []int{math.MinInt, math.MinInt + 1, math.MinInt / 2, -1 << 32, math.MaxInt / 2, math.MaxInt/2 + 1, math.MaxInt - 1, math.MaxInt, 1 << 32, 1 << 62}
	for at := -5; at <= n+5; at++ {
		l = append(l, at)
	}
	return l
}

// rows are rows of bytes of all lengths up to nine.
func rows() [][]byte {
	whole := []byte{1, 255, 128, 0, 127, 3, 254, 200, 77}
	l := [][]byte{nil}
	for n := range len(whole) + 1 {
		l = append(l, whole[:n:n])
	}
	return l
}

// within: are all n places from at on places of a row of that length?
func within(at, n, length int) bool {
	return at >= 0 && at <= length && n >= 0 && n <= length-at
}

// numberAt tells the number of size bytes from a place on; false, if they are
// not all there.
func numberAt(b []byte, at, size int) (int64, bool) {
	if !within(at, size, len(b)) {
		return 0, false
	}
	var n int64
	for _, part := range b[at : at+size] {
		n = 256*n + int64(part)
	}
	return n, true
}

// signed tells the number of an h whose bytes are those of n.
func signed(n int64) int64 {
	if n > 32767 {
		return n - 65536
	}
	return n
}

// asked tells the four numbers of a reader at a place, each asked of a new
// reader, and which of the four readers are bad.
func asked(open func() *bin.Reader, at int) (numbers [4]int64, bad [4]bool) {
	for i, ask := range []func(r *bin.Reader) int64{
		func(r *bin.Reader) int64 { return int64(r.Byte(at)) },
		func(r *bin.Reader) int64 { return int64(r.Word(at)) },
		func(r *bin.Reader) int64 { return int64(r.Int(at)) },
		func(r *bin.Reader) int64 { return int64(r.Long(at)) },
	} {
		r := open()
		numbers[i], bad[i] = ask(r), r.Bad()
	}
	return numbers, bad
}

// wanted tells what asked has to answer of a reader that is not bad yet.
func wanted(b []byte, at int) (numbers [4]int64, bad [4]bool) {
	for i, size := range []int{1, 2, 2, 4} {
		n, ok := numberAt(b, at, size)
		if i == 2 {
			n = signed(n)
		}
		numbers[i], bad[i] = n, !ok
	}
	return numbers, bad
}

// P4.1, P4.2, P4.3: the chapter's examples.
func TestReaderByHand(t *testing.T) {
	r := bin.Open([]byte{1, 2, 255, 254})
	if r.Byte(0) != 1 || r.Word(0) != 258 || r.Int(2) != -2 || r.Long(0) != 16973822 || r.Bad() {
		t.Error("the first example")
	}
	if p := r.Part(1, 2); p.Word(0) != 767 || r.Bad() {
		t.Error("the third example")
	}
	if r.Word(3) != 0 || !r.Bad() || r.Byte(0) != 1 {
		t.Error("the second example")
	}
	if p := r.Part(3, 2); p == nil || p.Len() != 0 || len(p.Bytes()) != 0 || !p.Bad() {
		t.Error("the fourth example")
	}
}

// P4.1.
func TestOpen(t *testing.T) {
	for _, b := range rows() {
		r := bin.Open(b)
		if r == nil || r.Len() != len(b) || r.Bad() || !slices.Equal(r.Bytes(), b) || r.Bad() {
			t.Errorf("%d: %d %t %d", b, r.Len(), r.Bad(), r.Bytes())
		}
	}
}

// P4.1: a nil reader.
func TestNilReader(t *testing.T) {
	var r *bin.Reader
	if !r.Bad() || r.Len() != 0 || r.Bytes() != nil {
		t.Error("Bad, Len, Bytes")
	}
	for _, at := range places(2) {
		numbers, bad := asked(func() *bin.Reader { return r }, at)
		if numbers != [4]int64{} || bad != [4]bool{true, true, true, true} {
			t.Errorf("at %d: %d", at, numbers)
		}
		for _, n := range places(2) {
			if r.Part(at, n) != nil || r.Words(at, n) != nil {
				t.Errorf("Part, Words(%d, %d)", at, n)
			}
		}
	}
}

// A reader that is made by hand is one of no bytes.
func TestReaderMadeByHand(t *testing.T) {
	made := func() *bin.Reader { return new(bin.Reader) }
	if r := made(); r.Bad() || r.Len() != 0 || len(r.Bytes()) != 0 || r.Bad() {
		t.Error("Bad, Len, Bytes")
	}
	for _, at := range places(0) {
		numbers, bad := asked(made, at)
		if numbers != [4]int64{} || bad != [4]bool{true, true, true, true} {
			t.Errorf("at %d: %d", at, numbers)
		}
		for _, n := range places(0) {
			r := made()
			if p := r.Part(at, n); p.Len() != 0 || p.Bad() != !within(at, n, 0) || r.Bad() != p.Bad() {
				t.Errorf("Part(%d, %d)", at, n)
			}
		}
	}
	r := made()
	p := r.Part(0, 0)
	if p.Byte(0); !r.Bad() {
		t.Error("a part's badness")
	}
}

// P4.2: every number of every row, and places that are none of its bytes.
func TestNumbers(t *testing.T) {
	for _, b := range rows() {
		for _, at := range places(len(b)) {
			numbers, bad := asked(func() *bin.Reader { return bin.Open(b) }, at)
			if n, w := wanted(b, at); numbers != n || bad != w {
				t.Errorf("%d at %d: %d %t, want %d %t", b, at, numbers, bad, n, w)
			}
		}
	}
}

// P4.2: all words, as numbers without and with a sign.
func TestEveryWord(t *testing.T) {
	for n := range 65536 {
		r := bin.Open([]byte{byte(n / 256), byte(n % 256)})
		if r.Word(0) != uint16(n) || int64(r.Int(0)) != signed(int64(n)) || r.Bad() {
			t.Fatalf("%d: %d %d", n, r.Word(0), r.Int(0))
		}
	}
}

// P4.2: a reader that is bad tells what it has, and stays bad.
func TestBadReaderTells(t *testing.T) {
	for _, b := range rows() {
		for _, at := range places(len(b)) {
			r := bin.Open(b)
			r.Byte(len(b))
			numbers, bad := asked(func() *bin.Reader { return r }, at)
			if n, _ := wanted(b, at); numbers != n || bad != [4]bool{true, true, true, true} {
				t.Errorf("%d at %d: %d %t", b, at, numbers, bad)
			}
			if r.Len() != len(b) || !slices.Equal(r.Bytes(), b) || !r.Bad() {
				t.Errorf("%d: its bytes", b)
			}
		}
	}
}

// P4.3: words of every row.
func TestWords(t *testing.T) {
	for _, b := range rows() {
		for _, at := range places(len(b)) {
			for _, n := range places(len(b)) {
				right := at >= 0 && at <= len(b) && n >= 0 && n <= len(b) && at+2*n <= len(b)
				var want []uint16
				for i := 0; right && i < n; i++ {
					word, _ := numberAt(b, at+2*i, 2)
					want = append(want, uint16(word))
				}
				r := bin.Open(b)
				if l := r.Words(at, n); !slices.Equal(l, want) || r.Bad() == right {
					t.Errorf("%d: Words(%d, %d) = %d, bad %t", b, at, n, l, r.Bad())
				}
			}
		}
	}
	r := bin.Open([]byte{1, 2, 255, 254})
	r.Words(0, 3)
	if l := r.Words(1, 1); !slices.Equal(l, []uint16{767}) || !r.Bad() {
		t.Error("of a bad reader", l)
	}
}
