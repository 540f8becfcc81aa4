package bin_test

import (
	"math/big"
	"math/rand"
	"slices"
	"testing"

	"calamus/bin"
)

// sumByWords tells the sum of b as numbers of four bytes, exact, then the rest
// of it by 2^32.
func sumByWords(b []byte) uint32 {
	l := slices.Clone(b)
	for len(l)%4 != 0 {
		l = append(l, 0)
	}
	sum := new(big.Int)
	for at := 0; at < len(l); at += 4 {
		sum.Add(sum, new(big.Int).SetBytes(l[at:at+4]))
	}
	return uint32(sum.Mod(sum, big.NewInt(1<<32)).Uint64())
}

// anyBytes tells n bytes, of which many are great, so that sums run over.
func anyBytes(r *rand.Rand, n int) []byte {
	b := make([]byte, n)
	for i := range b {
		b[i] = byte(r.Intn(256) | r.Intn(2)*240)
	}
	return b
}

// P4.5, by hand.
func TestSumByHand(t *testing.T) {
	for _, x := range []struct {
		b   []byte
		sum uint32
	}{
		{nil, 0},
		{[]byte{}, 0},
		{[]byte{0, 0, 0, 1, 128}, 2147483649},
		{[]byte{1}, 1 << 24},
		{[]byte{1, 2}, 1<<24 + 2<<16},
		{[]byte{1, 2, 3}, 1<<24 + 2<<16 + 3<<8},
		{[]byte{1, 2, 3, 4}, 16909060},
		{[]byte{255, 255, 255, 255, 0, 0, 0, 1}, 0},
		{[]byte{255, 255, 255, 255, 255, 255, 255, 255}, 4294967294},
		{[]byte{128, 0, 0, 0, 128, 0, 0, 0, 0, 0, 0, 5}, 5},
	} {
		if n := bin.Sum(x.b); n != x.sum {
			t.Errorf("Sum(%d) = %d, want %d", x.b, n, x.sum)
		}
	}
}

// P4.5: rows of all lengths.
func TestSum(t *testing.T) {
	r := rand.New(rand.NewSource(45))
	for range 2000 {
		b := anyBytes(r, r.Intn(40))
		if n, want := bin.Sum(b), sumByWords(b); n != want {
			t.Fatalf("Sum(%d) = %d, want %d", b, n, want)
		}
	}
	long := anyBytes(r, 1<<20+3)
	if n, want := bin.Sum(long), sumByWords(long); n != want {
		t.Errorf("of a long row: %d, want %d", n, want)
	}
}

// P4.6: what lies behind a row's length is neither changed nor looked at.
func TestSumMemory(t *testing.T) {
	behind := []byte{1, 2, 3, 4, 5, 6, 7, 8}
	whole := slices.Clone(behind)
	if n := bin.Sum(behind[:5]); n != 16909060+5<<24 {
		t.Errorf("Sum = %d", n)
	}
	if !slices.Equal(behind, whole) {
		t.Errorf("what is handed in is changed: %d", behind)
	}
}
