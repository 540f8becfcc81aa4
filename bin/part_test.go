package bin_test

import (
	"math/rand"
	"slices"
	"testing"

	"calamus/bin"
)

// P4.3: each part of each row: its bytes, and whether both are bad.
func TestPart(t *testing.T) {
	for _, b := range rows() {
		for _, at := range places(len(b)) {
			for _, n := range places(len(b)) {
				right := within(at, n, len(b))
				var want []byte
				if right {
					want = b[at : at+n]
				}
				r := bin.Open(b)
				p := r.Part(at, n)
				if p == nil || p.Len() != len(want) || !slices.Equal(p.Bytes(), want) || p.Bad() == right || r.Bad() == right {
					t.Errorf("%d: Part(%d, %d) has %d, bad %t %t", b, at, n, p.Bytes(), p.Bad(), r.Bad())
				}
				if r.Len() != len(b) || !slices.Equal(r.Bytes(), b) {
					t.Errorf("%d: Part(%d, %d) has changed it", b, at, n)
				}
			}
		}
	}
}

// P4.3: a part's numbers are of its own bytes alone.
func TestNumbersOfPart(t *testing.T) {
	b := []byte{1, 255, 128, 0, 127, 3, 254, 200, 77}
	for from := range len(b) + 1 {
		for n := range len(b) - from + 1 {
			for _, at := range places(n) {
				numbers, bad := asked(func() *bin.Reader { return bin.Open(b).Part(from, n) }, at)
				if want, w := wanted(b[from:from+n], at); numbers != want || bad != w {
					t.Errorf("Part(%d, %d) at %d: %d %t, want %d %t", from, n, at, numbers, bad, want, w)
				}
			}
		}
	}
}

// P4.3: a part of a bad reader has its bytes, and is bad.
func TestPartOfBad(t *testing.T) {
	b := []byte{1, 2, 3, 4}
	r := bin.Open(b)
	r.Long(1)
	for at := range len(b) + 1 {
		for n := range len(b) - at + 1 {
			if p := r.Part(at, n); !p.Bad() || !slices.Equal(p.Bytes(), b[at:at+n]) {
				t.Errorf("Part(%d, %d): %d, bad %t", at, n, p.Bytes(), p.Bad())
			}
		}
	}
}

// family is a reader, its parts, and theirs, each with its bytes.
func family(r *rand.Rand, b []byte) (readers []*bin.Reader, bytes [][]byte) {
	readers, bytes = []*bin.Reader{bin.Open(b)}, [][]byte{b}
	for range 12 {
		of := r.Intn(len(readers))
		whole := bytes[of]
		at := r.Intn(len(whole) + 1)
		n := r.Intn(len(whole) - at + 1)
		readers, bytes = append(readers, readers[of].Part(at, n)), append(bytes, whole[at:at+n])
	}
	return readers, bytes
}

// ask asks of a reader of those bytes something that it has not.
func ask(r *rand.Rand, reader *bin.Reader, b []byte) {
	switch n := len(b); r.Intn(8) {
	case 0:
		reader.Byte(n)
	case 1:
		reader.Word(n - 1)
	case 2:
		reader.Int(-1)
	case 3:
		reader.Long(n - 3)
	case 4:
		reader.Part(n+1, 0)
	case 5:
		reader.Part(0, -1)
	case 6:
		reader.Words(n, 1)
	case 7:
		reader.Words(0, -1)
	}
}

// P4.3: if one of a reader and its parts, and theirs, is bad, all are; till
// then none is, and another reader of the same bytes never.
func TestAllAreBad(t *testing.T) {
	r := rand.New(rand.NewSource(43))
	b := []byte{1, 255, 128, 0, 127, 3, 254, 200, 77}
	for range 5000 {
		other := bin.Open(b)
		readers, bytes := family(r, b)
		for i, reader := range readers {
			if reader.Bad() || !slices.Equal(reader.Bytes(), bytes[i]) {
				t.Fatalf("part %d: %d, bad %t", i, reader.Bytes(), reader.Bad())
			}
		}
		one := r.Intn(len(readers))
		ask(r, readers[one], bytes[one])
		for i, reader := range readers {
			if !reader.Bad() || !slices.Equal(reader.Bytes(), bytes[i]) {
				t.Fatalf("part %d, when %d is bad: %d, bad %t", i, one, reader.Bytes(), reader.Bad())
			}
		}
		if other.Bad() {
			t.Fatal("another reader is bad")
		}
	}
}

// P4.6: a reader is one of a copy, and tells copies.
func TestReaderMemory(t *testing.T) {
	behind := []byte{1, 2, 255, 254, 5, 6}
	whole := slices.Clone(behind)
	r := bin.Open(behind[:4])
	p := r.Part(1, 3)
	mine, its, words := r.Bytes(), p.Bytes(), r.Words(0, 2)
	r.Part(0, 4).Words(0, 2)
	r.Long(1)
	if !slices.Equal(behind, whole) {
		t.Errorf("what is handed in is changed: %d", behind)
	}
	clear(behind)
	clear(mine[:cap(mine)])
	clear(words[:cap(words)])
	if !slices.Equal(its, []byte{2, 255, 254}) {
		t.Errorf("two answers share their memory: %d", its)
	}
	if !slices.Equal(r.Bytes(), whole[:4]) || !slices.Equal(p.Bytes(), whole[1:4]) || !slices.Equal(r.Words(0, 2), []uint16{258, 65534}) {
		t.Errorf("a reader shares its memory: %d %d", r.Bytes(), p.Bytes())
	}
}
