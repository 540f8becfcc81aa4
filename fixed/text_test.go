package fixed_test

import (
	"math/big"
	"math/rand"
	"strconv"
	"strings"
	"testing"

	"calamus/api"
	"calamus/fixed"
)

// P1.3, by hand.
func TestPrintByHand(t *testing.T) {
	for _, x := range []struct {
		sp   int64
		text string
	}{
		{98304, "1.5"},
		{-1, "-0.0000152587890625"},
		{1, "0.0000152587890625"},
		{0, "0"},
		{65536, "1"},
		{-65536, "-1"},
		{-98304, "-1.5"},
		{32768, "0.5"},
		{-32768, "-0.5"},
		{65535, "0.9999847412109375"},
		{65537, "1.0000152587890625"},
		{100 * 65536, "100"},
		{10*65536 + 2048, "10.03125"},
		{1 << 40, "16777216"},
		{greatest, "140737488355327.9999847412109375"},
		{least, "-140737488355328"},
		{least + 1, "-140737488355327.9999847412109375"},
	} {
		if s := fixed.Print(x.sp); s != x.text {
			t.Errorf("Print(%d) = %s, want %s", x.sp, s, x.text)
		}
	}
}

// decimals tells scaled points as decimals, by exact fractions.
func decimals(sp int64) string {
	s := new(big.Rat).SetFrac64(sp, api.Point).FloatString(16)
	return strings.TrimSuffix(strings.TrimRight(s, "0"), ".")
}

// P1.3, and Read of Print in P1.5.
func TestPrint(t *testing.T) {
	sames := edges()
	for sp := int64(-65536 * 2); sp <= 65536*2; sp++ {
		sames = append(sames, sp)
	}
	r := rand.New(rand.NewSource(21))
	for range 50000 {
		sames = append(sames, anyNumber(r))
	}
	for _, sp := range sames {
		s := fixed.Print(sp)
		if s != decimals(sp) {
			t.Fatalf("Print(%d) = %s, want %s", sp, s, decimals(sp))
		}
		if n, e := fixed.Read(s); n != sp || e != api.OK {
			t.Fatalf("Read(Print(%d)) = %d %d", sp, n, e)
		}
	}
}

// P1.4, by hand.
func TestReadByHand(t *testing.T) {
	for _, x := range []struct {
		text string
		n    int64
		e    api.Errno
	}{
		{"1.5", 98304, api.OK},
		{"-0.00001", -1, api.OK},
		{"0.0000076293945312", 0, api.OK},
		{"00.5", 32768, api.OK},
		{"0", 0, api.OK},
		{"-0", 0, api.OK},
		{"-0.0", 0, api.OK},
		{"1", 65536, api.OK},
		{"-1", -65536, api.OK},
		{"007", 7 * 65536, api.OK},
		{"12.0", 12 * 65536, api.OK},
		// Half a scaled point, and just less and more of it, on either side of 0.
		{"0.00000762939453125", 1, api.OK},
		{"-0.00000762939453125", -1, api.OK},
		{"0.00000762939453124", 0, api.OK},
		{"-0.00000762939453124", 0, api.OK},
		{"0.00000762939453124999999999999999999999", 0, api.OK},
		{"0.00000762939453125000000000000000000001", 1, api.OK},
		{"0.00002288818359375", 2, api.OK},
		{"-0.00002288818359375", -2, api.OK},
		{"0.99999237060546875", 65536, api.OK},
		{"0.99999237060546874", 65535, api.OK},
		{"-9.99999999999999999999999999999999999", -655360, api.OK},
		// Just inside, and just outside, of what a number holds.
		{"140737488355327.9999847412109375", greatest, api.OK},
		{"140737488355327.99999237060546874", greatest, api.OK},
		{"140737488355327.99999237060546875", 0, api.ErrFlow},
		{"140737488355328", 0, api.ErrFlow},
		{"-140737488355328", least, api.OK},
		{"-140737488355328.00000762939453124", least, api.OK},
		{"-140737488355328.00000762939453125", 0, api.ErrFlow},
		{"-140737488355329", 0, api.ErrFlow},
		{"281474976710655", 0, api.ErrFlow},
		{"281474976710656", 0, api.ErrFlow},
		{"281474976710657", 0, api.ErrFlow},
		{"-281474976710656", 0, api.ErrFlow},
		{"18446744073709551615", 0, api.ErrFlow},
		{"18446744073709551616", 0, api.ErrFlow},
		{"-18446744073709551616.5", 0, api.ErrFlow},
		// 40 bytes, and 41.
		{strings.Repeat("9", 40), 0, api.ErrFlow},
		{"-" + strings.Repeat("9", 39), 0, api.ErrFlow},
		{strings.Repeat("0", 39) + "1", 65536, api.OK},
		{"-" + strings.Repeat("0", 38) + "1", -65536, api.OK},
		{"0." + strings.Repeat("9", 38), 65536, api.OK},
		{strings.Repeat("0", 38) + ".5", 32768, api.OK},
		{strings.Repeat("0", 41), 0, api.ErrArg},
		{strings.Repeat("9", 41), 0, api.ErrArg},
		{"-" + strings.Repeat("0", 40), 0, api.ErrArg},
		{"0." + strings.Repeat("0", 39), 0, api.ErrArg},
	} {
		if n, e := fixed.Read(x.text); n != x.n || e != x.e {
			t.Errorf("Read(%q) = %d %d, want %d %d", x.text, n, e, x.n, x.e)
		}
	}
}

// P1.4: what is no text of points.
func TestReadWrong(t *testing.T) {
	for _, s := range []string{
		"", "-", ".", "-.", ".5", "-.5", "5.", "-5.", "+1", "+", "--1", "1-", "-+1", "1.-5", "1.+5", "- 1",
		" 1", "1 ", "1 .5", "1. 5", "\t1", "1\n", "1..5", "1.5.", "1.5.5", ".1.", "1,5", "1e5", "1E5", "0x10", "1_000",
		"a", "1a", "a1", "1.a", "1.5pt", "NaN", "Inf", "/", ":", "1.:", "1./", "\x00", "1\x00", "\xff", "1.\xff",
		"\u0661", "1.\u0661", "\uff11", "\u22121", "99999999999999999999x", "x" + strings.Repeat("9", 39),
	} {
		if n, e := fixed.Read(s); n != 0 || e != api.ErrArg {
			t.Errorf("Read(%q) = %d %d, want 0 %d", s, n, e, api.ErrArg)
		}
	}
	for b := range 256 {
		if b >= '0' && b <= '9' {
			continue
		}
		c := string([]byte{byte(b)})
		for _, s := range []string{c, c + c + "1", "1" + c, "1.2" + c, "1." + c + "2"} {
			if n, e := fixed.Read(s); n != 0 || e != api.ErrArg {
				t.Errorf("Read(%q) = %d %d, want 0 %d", s, n, e, api.ErrArg)
			}
		}
	}
}

// scaled tells what Read has to answer of a text of points.
func scaled(t *testing.T, s string) (int64, api.Errno) {
	t.Helper()
	exact, ok := new(big.Rat).SetString(s)
	if !ok {
		t.Fatal(s)
	}
	exact.Mul(exact, big.NewRat(api.Point, 1))
	twice := new(big.Int).Lsh(new(big.Int).Abs(exact.Num()), 1)
	twice.Add(twice, exact.Denom())
	twice.Div(twice, new(big.Int).Lsh(exact.Denom(), 1))
	if exact.Sign() < 0 {
		twice.Neg(twice)
	}
	return told(twice)
}

// anyText tells a text of points of up to 40 bytes.
func anyText(r *rand.Rand) string {
	s := ""
	if r.Intn(2) == 0 {
		s = "-"
	}
	s += strconv.FormatUint(r.Uint64()>>r.Intn(64)>>(r.Intn(2)*16), 10)
	if r.Intn(5) == 0 {
		return s
	}
	s += "."
	for n := 1 + r.Intn(40-len(s)); n > 0; n-- {
		s += string(rune('0' + r.Intn(10)))
	}
	return s
}

// P1.4, against exact numbers.
func TestRead(t *testing.T) {
	r := rand.New(rand.NewSource(22))
	for range 50000 {
		s := anyText(r)
		want, wrong := scaled(t, s)
		if n, e := fixed.Read(s); n != want || e != wrong {
			t.Fatalf("Read(%q) = %d %d, want %d %d", s, n, e, want, wrong)
		}
	}
}

// P1.4: texts at, and beside, the halves between two scaled points.
func TestReadHalves(t *testing.T) {
	for half := int64(1); half < 2*api.Point; half += 2 {
		middle := new(big.Rat).SetFrac64(half, 2*api.Point).FloatString(17)
		less := new(big.Rat).SetFrac64(half, 2*api.Point)
		less.Sub(less, new(big.Rat).SetFrac(big.NewInt(1), new(big.Int).Exp(big.NewInt(10), big.NewInt(37), nil)))
		for _, s := range []string{middle, middle + "1", less.FloatString(37)} {
			for _, sign := range []string{"", "-"} {
				want, wrong := scaled(t, sign+s)
				if n, e := fixed.Read(sign + s); n != want || e != wrong {
					t.Fatalf("Read(%q) = %d %d, want %d %d", sign+s, n, e, want, wrong)
				}
			}
		}
	}
}
