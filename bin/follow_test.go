package bin_test

import (
	"math/rand"
	"testing"

	"calamus/api"
	"calamus/bin"
)

// P4.7: what Put has written is read at its places.
func TestPutIsRead(t *testing.T) {
	r := rand.New(rand.NewSource(47))
	for range 5000 {
		l, plan := anyPlan(r)
		b, e := bin.Put(l, plan)
		if e != api.OK {
			continue
		}
		reader, at := bin.Open(b), 0
		for i, n := range l {
			var read int64
			switch plan[i] {
			case 'b':
				read = int64(reader.Byte(at))
			case 'H':
				read = int64(reader.Word(at))
			case 'h':
				read = int64(reader.Int(at))
			case 'I':
				read = int64(reader.Long(at))
			}
			if read != n {
				t.Fatalf("Put(%d, %q): at %d stands %d", l, plan, at, read)
			}
			c, _ := letterOf(plan[i])
			at += c.size
		}
		if at != reader.Len() || reader.Bad() {
			t.Fatalf("Put(%d, %q) has %d bytes", l, plan, reader.Len())
		}
	}
}

// P4.7: sums of rows whose lengths are multiples of four add up; that of a row
// of another length, if it is the last one.
func TestSumsAddUp(t *testing.T) {
	r := rand.New(rand.NewSource(48))
	for range 2000 {
		a, b := anyBytes(r, 4*r.Intn(8)), anyBytes(r, r.Intn(32))
		if n, want := bin.Sum(append(a, b...)), bin.Sum(a)+bin.Sum(b); n != want {
			t.Fatalf("%d, %d: %d, want %d", a, b, n, want)
		}
	}
}
