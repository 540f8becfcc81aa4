package fixed_test

import (
	"math"
	"math/big"
	"math/rand"
	"testing"

	"calamus/api"
	"calamus/fixed"
)

const (
	least    = math.MinInt64
	greatest = math.MaxInt64
)

// edges are the numbers at which sums, products and quotients turn.
func edges() []int64 {
	return []int64{
		0, 1, -1, 2, -2, 3, -3, 5, -5, 7, -7, 10, -10, 65535, 65536, -65536, 65537, -65537,
		1<<31 - 1, 1 << 31, -1 << 31, 1<<32 - 1, 1 << 32, -1 << 32, 1<<47 - 1, 1 << 47, -1 << 47,
		api.MaxSize, -api.MaxSize, 1<<62 - 1, 1 << 62, -1 << 62, 1<<62 + 1, 3037000499, 3037000500, -3037000500,
		greatest / 2, greatest - 1, greatest, least / 2, least + 1, least,
	}
}

// anyNumber tells numbers of all lengths, of either sign.
func anyNumber(r *rand.Rand) int64 { return int64(r.Uint64()) >> r.Intn(64) }

// told is what a call has to answer of an exact number.
func told(n *big.Int) (int64, api.Errno) {
	if !n.IsInt64() {
		return 0, api.ErrFlow
	}
	return n.Int64(), api.OK
}

// wanted tells a b / c floored, and rounded.
func wanted(a, b, c int64) (floor, round *big.Int) {
	over := new(big.Int).Mul(big.NewInt(a), big.NewInt(b))
	under := big.NewInt(c)
	if c < 0 {
		over.Neg(over)
		under.Neg(under)
	}
	floor = new(big.Int).Div(over, under)
	twice := new(big.Int).Lsh(new(big.Int).Abs(over), 1)
	twice.Add(twice, under)
	round = twice.Div(twice, new(big.Int).Lsh(under, 1))
	if over.Sign() < 0 {
		round.Neg(round)
	}
	return floor, round
}

func sameSum(t *testing.T, a, b int64) {
	t.Helper()
	x, y := big.NewInt(a), big.NewInt(b)
	want, wrong := told(new(big.Int).Add(x, y))
	if n, e := fixed.Add(a, b); n != want || e != wrong {
		t.Fatalf("Add(%d, %d) = %d %d, want %d %d", a, b, n, e, want, wrong)
	}
	want, wrong = told(new(big.Int).Sub(x, y))
	if n, e := fixed.Sub(a, b); n != want || e != wrong {
		t.Fatalf("Sub(%d, %d) = %d %d, want %d %d", a, b, n, e, want, wrong)
	}
}

// P1.1.
func TestAddSub(t *testing.T) {
	for _, x := range []struct {
		a, b, sum, rest     int64
		sumError, restError api.Errno
	}{
		{1, 2, 3, -1, api.OK, api.OK},
		{-1, -2, -3, 1, api.OK, api.OK},
		{greatest, 1, 0, greatest - 1, api.ErrFlow, api.OK},
		{greatest, -1, greatest - 1, 0, api.OK, api.ErrFlow},
		{greatest, 0, greatest, greatest, api.OK, api.OK},
		{least, 1, least + 1, 0, api.OK, api.ErrFlow},
		{least, -1, 0, least + 1, api.ErrFlow, api.OK},
		{0, least, least, 0, api.OK, api.ErrFlow},
		{-1, least, 0, greatest, api.ErrFlow, api.OK},
		{least, least, 0, 0, api.ErrFlow, api.OK},
		{greatest, least, -1, 0, api.OK, api.ErrFlow},
		{1 << 62, 1 << 62, 0, 0, api.ErrFlow, api.OK},
	} {
		if n, e := fixed.Add(x.a, x.b); n != x.sum || e != x.sumError {
			t.Errorf("Add(%d, %d) = %d %d", x.a, x.b, n, e)
		}
		if n, e := fixed.Sub(x.a, x.b); n != x.rest || e != x.restError {
			t.Errorf("Sub(%d, %d) = %d %d", x.a, x.b, n, e)
		}
	}
	for _, a := range edges() {
		for _, b := range edges() {
			sameSum(t, a, b)
		}
	}
	r := rand.New(rand.NewSource(11))
	for range 20000 {
		sameSum(t, anyNumber(r), anyNumber(r))
	}
}

// P1.2, by hand.
func TestQuotientsByHand(t *testing.T) {
	for _, x := range []struct {
		a, b, c, floor, round int64
		floorError            api.Errno
		roundError            api.Errno
	}{
		{-7, 1, 2, -4, -4, api.OK, api.OK},
		{7, 1, 2, 3, 4, api.OK, api.OK},
		{5, 1, 4, 1, 1, api.OK, api.OK},
		{-5, 1, 4, -2, -1, api.OK, api.OK},
		{1, 1, 2, 0, 1, api.OK, api.OK},
		{-1, 1, 2, -1, -1, api.OK, api.OK},
		{1, -1, 2, -1, -1, api.OK, api.OK},
		{1, 1, -2, -1, -1, api.OK, api.OK},
		{-1, -1, -2, -1, -1, api.OK, api.OK},
		{-1, 1, -2, 0, 1, api.OK, api.OK},
		{1, 1, 3, 0, 0, api.OK, api.OK},
		{2, 1, 3, 0, 1, api.OK, api.OK},
		{-1, 1, 3, -1, 0, api.OK, api.OK},
		{-2, 1, 3, -1, -1, api.OK, api.OK},
		{0, 5, -7, 0, 0, api.OK, api.OK},
		{1 << 62, 6, 3, 0, 0, api.ErrFlow, api.ErrFlow},
		{1 << 62, 3, 2, 6917529027641081856, 6917529027641081856, api.OK, api.OK},
		{1, 1, 0, 0, 0, api.ErrArg, api.ErrArg},
		{0, 0, 0, 0, 0, api.ErrArg, api.ErrArg},
		{greatest, greatest, 0, 0, 0, api.ErrArg, api.ErrArg},
		{least, 1, 1, least, least, api.OK, api.OK},
		{least, -1, -1, least, least, api.OK, api.OK},
		{least, -1, 1, 0, 0, api.ErrFlow, api.ErrFlow},
		{least, 1, -1, 0, 0, api.ErrFlow, api.ErrFlow},
		{least, least, least, least, least, api.OK, api.OK},
		{least, least, greatest, 0, 0, api.ErrFlow, api.ErrFlow},
		{greatest, greatest, greatest, greatest, greatest, api.OK, api.OK},
		{greatest, greatest, least, -greatest, -greatest + 1, api.OK, api.OK},
		{greatest, greatest, 1, 0, 0, api.ErrFlow, api.ErrFlow},
		{1, 1, least, -1, 0, api.OK, api.OK},
		{1 << 62, 1, least, -1, -1, api.OK, api.OK},
		{1<<62 - 1, 1, least, -1, 0, api.OK, api.OK},
		{greatest, 3, 2, 0, 0, api.ErrFlow, api.ErrFlow},
		// 2^63 - 1/2: one more is no number, but on the other side of 0.
		{1<<32 + 1, 1<<32 - 1, 2, greatest, 0, api.OK, api.ErrFlow},
		{-(1<<32 + 1), 1<<32 - 1, 2, least, least, api.OK, api.OK},
		// 2^64 - 1/2: one more is no word.
		{253921, 145295143558111, 2, 0, 0, api.ErrFlow, api.ErrFlow},
		{-253921, 145295143558111, 2, 0, 0, api.ErrFlow, api.ErrFlow},
	} {
		if n, e := fixed.MulDiv(x.a, x.b, x.c); n != x.floor || e != x.floorError {
			t.Errorf("MulDiv(%d, %d, %d) = %d %d", x.a, x.b, x.c, n, e)
		}
		if n, e := fixed.Round(x.a, x.b, x.c); n != x.round || e != x.roundError {
			t.Errorf("Round(%d, %d, %d) = %d %d", x.a, x.b, x.c, n, e)
		}
	}
}

func sameQuotient(t *testing.T, a, b, c int64) {
	t.Helper()
	var floor, round int64
	floorError, roundError := api.ErrArg, api.ErrArg
	if c != 0 {
		x, y := wanted(a, b, c)
		floor, floorError = told(x)
		round, roundError = told(y)
	}
	if n, e := fixed.MulDiv(a, b, c); n != floor || e != floorError {
		t.Fatalf("MulDiv(%d, %d, %d) = %d %d, want %d %d", a, b, c, n, e, floor, floorError)
	}
	if n, e := fixed.Round(a, b, c); n != round || e != roundError {
		t.Fatalf("Round(%d, %d, %d) = %d %d, want %d %d", a, b, c, n, e, round, roundError)
	}
}

// P1.2, against exact numbers.
func TestQuotients(t *testing.T) {
	for _, a := range edges() {
		for _, b := range edges() {
			for _, c := range edges() {
				sameQuotient(t, a, b, c)
			}
		}
	}
	for a := int64(-30); a <= 30; a++ {
		for c := int64(-9); c <= 9; c++ {
			sameQuotient(t, a, 1, c)
		}
	}
	r := rand.New(rand.NewSource(12))
	for range 50000 {
		sameQuotient(t, anyNumber(r), anyNumber(r), anyNumber(r))
	}
}

// P1.2: quotients just inside, and just outside, of what a number holds.
func TestQuotientsAtTheEnds(t *testing.T) {
	r := rand.New(rand.NewSource(13))
	for range 20000 {
		b, c := anyNumber(r), anyNumber(r)
		if b == 0 || c == 0 {
			continue
		}
		for _, end := range []int64{greatest, least} {
			a := new(big.Int).Mul(big.NewInt(end), big.NewInt(c))
			a.Quo(a, big.NewInt(b))
			for d := int64(-1); d <= 1; d++ {
				if x := new(big.Int).Add(a, big.NewInt(d)); x.IsInt64() {
					sameQuotient(t, x.Int64(), b, c)
				}
			}
		}
	}
}

// P1.2.
func TestRatioScale(t *testing.T) {
	for _, x := range []struct {
		a, b, n int64
		e       api.Errno
	}{
		{1, 2, 32768, api.OK},
		{-1, 3, -21845, api.OK},
		{1, 131072, 1, api.OK},
		{-1, 131072, -1, api.OK},
		{1, 131073, 0, api.OK},
		{1, 0, 0, api.ErrArg},
		{1 << 47, 1, 0, api.ErrFlow},
		{-1 << 47, 1, least, api.OK},
		{least, -1, 0, api.ErrFlow},
	} {
		if n, e := fixed.Ratio(x.a, x.b); n != x.n || e != x.e {
			t.Errorf("Ratio(%d, %d) = %d %d", x.a, x.b, n, e)
		}
	}
	for _, x := range []struct {
		units, size int64
		em          uint16
		n           int64
		e           api.Errno
	}{
		{500, 12 * api.Point, 1000, 6 * api.Point, api.OK},
		{1, 1, 2, 1, api.OK},
		{-1, 1, 2, -1, api.OK},
		{1, 1, 65535, 0, api.OK},
		{65535, greatest, 65535, greatest, api.OK},
		{5, 5, 0, 0, api.ErrArg},
		{greatest, 2, 1, 0, api.ErrFlow},
	} {
		if n, e := fixed.Scale(x.units, x.size, x.em); n != x.n || e != x.e {
			t.Errorf("Scale(%d, %d, %d) = %d %d", x.units, x.size, x.em, n, e)
		}
	}
	for _, a := range edges() {
		for _, b := range edges() {
			want, wrong := fixed.Round(a, api.Point, b)
			if n, e := fixed.Ratio(a, b); n != want || e != wrong {
				t.Fatalf("Ratio(%d, %d) = %d %d, want %d %d", a, b, n, e, want, wrong)
			}
			for _, em := range []uint16{0, 1, 1000, 2048, 32768, 65535} {
				want, wrong := fixed.Round(a, b, int64(em))
				if n, e := fixed.Scale(a, b, em); n != want || e != wrong {
					t.Fatalf("Scale(%d, %d, %d) = %d %d, want %d %d", a, b, em, n, e, want, wrong)
				}
			}
		}
	}
}

// P1.5, of the quotients and the sums.
func TestQuotientsFollow(t *testing.T) {
	r := rand.New(rand.NewSource(15))
	for range 20000 {
		a, b, c := anyNumber(r), anyNumber(r), anyNumber(r)
		exact := new(big.Int).Mul(big.NewInt(a), big.NewInt(b))
		if n, e := fixed.MulDiv(a, b, c); c > 0 && e == api.OK {
			away := new(big.Int).Mul(big.NewInt(n), big.NewInt(c))
			away.Sub(exact, away)
			if away.Sign() < 0 || away.Cmp(big.NewInt(c)) >= 0 {
				t.Fatalf("MulDiv(%d, %d, %d) = %d is %s away", a, b, c, n, away)
			}
		}
		if n, e := fixed.Round(a, b, c); e == api.OK {
			away := new(big.Int).Mul(big.NewInt(n), big.NewInt(c))
			away.Sub(exact, away).Abs(away).Lsh(away, 1)
			if away.Cmp(new(big.Int).Abs(big.NewInt(c))) > 0 {
				t.Fatalf("Round(%d, %d, %d) = %d is more than a half away", a, b, c, n)
			}
		}
		if sum, e := fixed.Add(a, b); e == api.OK {
			if n, e := fixed.Sub(sum, b); n != a || e != api.OK {
				t.Fatalf("Sub(Add(%d, %d), %d) = %d %d", a, b, b, n, e)
			}
		}
	}
}
