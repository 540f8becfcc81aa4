package cover_test

import (
	"math/rand"
	"slices"
	"testing"

	"calamus/api"
	"calamus/bin"
	"calamus/cover"
)

func sameSubtable(a, b cover.Subtable) bool {
	return a.Type == b.Type && a.Flag == b.Flag && slices.Equal(a.At, b.At)
}

// lookupsByWords tells the lookups, as the chapter's words say.
func lookupsByWords(b []byte, at int) ([]cover.Subtable, bool) {
	places, ok := counted(b, at, 1)
	if !ok || len(places) > 256 {
		return nil, false
	}
	var l []cover.Subtable
	for _, place := range places {
		its, ok := wordsAt(b, at+place, 2)
		if !ok || its[1] > 15 {
			return nil, false
		}
		from, ok := counted(b, at+place+4, 1)
		if !ok || len(from) < 1 || len(from) > 256 {
			return nil, false
		}
		s := cover.Subtable{Type: uint16(its[0]), Flag: uint16(its[1] - its[1]%2)}
		for _, n := range from {
			s.At = append(s.At, at+place+n)
		}
		l = append(l, s)
	}
	return l, true
}

// sameLookups: does Lookups tell what the words say? Tells whether there are some.
func sameLookups(t *testing.T, b []byte, at int) bool {
	t.Helper()
	want, ok := lookupsByWords(b, at)
	if l, e := cover.Lookups(bin.Open(b), at); !slices.EqualFunc(l, want, sameSubtable) || e != numberOf(ok) || !ok && l != nil {
		t.Fatalf("%d at %d: %v %d, want %v %t", b, at, l, e, want, ok)
	}
	return ok
}

func areLookups(t *testing.T, what string, b []byte, want ...cover.Subtable) {
	t.Helper()
	r := bin.Open(b)
	if l, e := cover.Lookups(r, 0); e != api.OK || !slices.EqualFunc(l, want, sameSubtable) {
		t.Errorf("%s: %v %d, want %v", what, l, e, want)
	}
	unchanged(t, what, r, b)
}

func areNoLookups(t *testing.T, what string, b []byte) {
	t.Helper()
	if l, e := cover.Lookups(bin.Open(b), 0); e != api.ErrFont || l != nil {
		t.Errorf("%s: %v %d, want ErrFont", what, l, e)
	}
}

// twoLookups is one of the type 4 of two subtables, and one of the type 1.
func twoLookups() []byte {
	return words(2, 6, 16, 4, 8, 2, 20, 0, 1, 0, 1, 10)
}

// P6.4, by hand.
func TestLookupsByHand(t *testing.T) {
	areLookups(t, "two", twoLookups(), cover.Subtable{Type: 4, Flag: 8, At: []int{26, 6}}, cover.Subtable{Type: 1, At: []int{26}})
	areLookups(t, "none", words(0))
	areLookups(t, "none, though more is behind", words(0, 4, 1, 16, 0))
	areLookups(t, "any type", words(2, 6, 14, 65535, 0, 1, 3, 0, 0, 1, 3), cover.Subtable{Type: 65535, At: []int{9}}, cover.Subtable{At: []int{17}})
	areLookups(t, "alike, at one place", words(2, 6, 6, 7, 2, 1, 1), cover.Subtable{Type: 7, Flag: 2, At: []int{7}}, cover.Subtable{Type: 7, Flag: 2, At: []int{7}})
	areLookups(t, "beyond the bytes", words(1, 4, 2, 4, 3, 65535, 0, 65535), cover.Subtable{Type: 2, Flag: 4, At: []int{65539, 4, 65539}})
}

// P6.4: which flags may be, and what is told of them.
func TestLookupsFlags(t *testing.T) {
	for flag := range 65536 {
		l, e := cover.Lookups(bin.Open(words(1, 4, 2, flag, 1, 9)), 0)
		if flag > 15 && (e != api.ErrFont || l != nil) || flag <= 15 && (e != api.OK || len(l) != 1 || int(l[0].Flag) != flag/2*2) {
			t.Errorf("%d: %v %d", flag, l, e)
		}
	}
}

// P6.4: what is wrong.
func TestLookupsWrong(t *testing.T) {
	areNoLookups(t, "no bytes", nil)
	areNoLookups(t, "too few places", words(2, 4))
	areNoLookups(t, "no lookup there", words(1, 4))
	areNoLookups(t, "no subtables", words(1, 4, 1, 0, 0, 9))
	areNoLookups(t, "too few subtables", words(1, 4, 1, 0, 2, 9))
	areNoLookups(t, "half a lookup", words(1, 4, 1, 0))
	areNoLookups(t, "a bit more", words(1, 4, 1, 16, 1, 9))
	areNoLookups(t, "a high bit more", words(1, 4, 1, 256, 1, 9))
	areNoLookups(t, "the second one is wrong", words(2, 6, 14, 1, 0, 1, 9, 1, 0, 0, 9))
}

// P6.4: as many lookups, and as many subtables, as there may be, and more.
func TestLookupsMost(t *testing.T) {
	for _, n := range []int{255, 256, 257, 65535} {
		one := []int{3, 2, 1, 5}
		b := words(slices.Concat([]int{n}, slices.Repeat([]int{0}, n), one)...)
		for i := range n {
			copy(b[2+2*i:], words(2+2*n))
		}
		l, e := cover.Lookups(bin.Open(b), 0)
		if n <= 256 && (e != api.OK || len(l) != n) || n > 256 && (e != api.ErrFont || l != nil) {
			t.Errorf("%d lookups: %d, %d", n, len(l), e)
		}
		b = words(slices.Concat([]int{1, 4, 3, 2, n}, slices.Repeat([]int{300}, n))...)
		l, e = cover.Lookups(bin.Open(b), 0)
		if n <= 256 && (e != api.OK || len(l) != 1 || len(l[0].At) != n || l[0].At[n-1] != 304) || n > 256 && (e != api.ErrFont || l != nil) {
			t.Errorf("%d subtables: %v, %d", n, l, e)
		}
	}
}

// P6.4: each byte, whatever it is; every length.
func TestLookupsOfBytes(t *testing.T) {
	everyByte(twoLookups(), func(b []byte) { sameLookups(t, b, 0) })
	everyByte(append(twoLookups(), make([]byte, 600)...), func(b []byte) { sameLookups(t, b, 0) })
}

// P6.4: places are reckoned from where the list, and a lookup, begins, and told
// as places of the reader.
func TestLookupsAtPlaces(t *testing.T) {
	b := twoLookups()
	for n := range 9 {
		want := []cover.Subtable{{Type: 4, Flag: 8, At: []int{n + 26, n + 6}}, {Type: 1, At: []int{n + 26}}}
		if l, e := cover.Lookups(behind(b, n), n); e != api.OK || !slices.EqualFunc(l, want, sameSubtable) {
			t.Errorf("at %d: %v %d", n, l, e)
		}
	}
	for at := -8; at < len(b)+8; at++ {
		sameLookups(t, b, at)
	}
	for _, at := range farPlaces() {
		sameLookups(t, b, at)
	}
}

// P6.4: no reader, a bad one, one that is made by hand.
func TestLookupsOfNone(t *testing.T) {
	for _, b := range [][]byte{twoLookups(), words(0)} {
		for i, r := range noReaders(b) {
			if l, e := cover.Lookups(r, 0); l != nil || e != api.ErrFont {
				t.Errorf("%d: %v %d", i, l, e)
			}
		}
	}
}

// P6.4: lookups of all kinds, and what is nearly some.
func TestLookupsAtRandom(t *testing.T) {
	r := rand.New(rand.NewSource(64))
	right := 0
	for range 60000 {
		n := r.Intn(4)
		b, at := words(n), 2+2*n
		var tables []byte
		for range n {
			b = append(b, words(at+len(tables))...)
			k := (1 + r.Intn(4)) % 4
			tables = slices.Concat(tables, words(r.Intn(9), r.Intn(17), k), someWords(r, k, 80))
		}
		b = append(b, tables...)
		if r.Intn(2) == 0 {
			b[r.Intn(len(b))] += byte(r.Intn(5) - 2)
		}
		if sameLookups(t, b, r.Intn(10)/9*2) {
			right++
		}
	}
	if right < 10000 || right > 50000 {
		t.Errorf("%d of 60000 are lookups", right)
	}
}
