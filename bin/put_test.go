package bin_test

import (
	"math"
	"math/rand"
	"slices"
	"strings"
	"testing"

	"calamus/api"
	"calamus/bin"
)

// letter is what the chapter says of a plan's letter.
type letter struct {
	size            int
	least, greatest int64
}

func letterOf(c byte) (letter, bool) {
	switch c {
	case 'b':
		return letter{1, 0, 255}, true
	case 'H':
		return letter{2, 0, 65535}, true
	case 'h':
		return letter{2, -32768, 32767}, true
	case 'I':
		return letter{4, 0, 4294967295}, true
	}
	return letter{}, false
}

// putByTable tells the bytes of numbers as the chapter's words say.
func putByTable(l []int64, plan string) ([]byte, api.Errno) {
	if len(l) != len(plan) {
		return nil, api.ErrArg
	}
	var b []byte
	for i, n := range l {
		c, ok := letterOf(plan[i])
		if !ok || n < c.least || n > c.greatest {
			return nil, api.ErrArg
		}
		if n < 0 {
			n += 65536
		}
		for at := c.size - 1; at >= 0; at-- {
			digit := n
			for range at {
				digit /= 256
			}
			b = append(b, byte(digit%256))
		}
	}
	return b, api.OK
}

func samePut(t *testing.T, l []int64, plan string) {
	t.Helper()
	want, wrong := putByTable(l, plan)
	if b, e := bin.Put(l, plan); !slices.Equal(b, want) || e != wrong || e != api.OK && b != nil {
		t.Errorf("Put(%d, %q) = %d %d, want %d %d", l, plan, b, e, want, wrong)
	}
}

// P4.4, by hand.
func TestPutByHand(t *testing.T) {
	for _, x := range []struct {
		l    []int64
		plan string
		b    []byte
		e    api.Errno
	}{
		{nil, "", nil, api.OK},
		{[]int64{}, "", nil, api.OK},
		{[]int64{258, -2, 5}, "Hhb", []byte{1, 2, 255, 254, 5}, api.OK},
		{[]int64{255, 65535, 32767, 4294967295}, "bHhI", []byte{255, 255, 255, 127, 255, 255, 255, 255, 255}, api.OK},
		{[]int64{0, 0, -32768, 0}, "bHhI", []byte{0, 0, 0, 128, 0, 0, 0, 0, 0}, api.OK},
		{[]int64{16909060}, "I", []byte{1, 2, 3, 4}, api.OK},
		{[]int64{-1}, "h", []byte{255, 255}, api.OK},
		{[]int64{256}, "b", nil, api.ErrArg},
		{[]int64{-1}, "b", nil, api.ErrArg},
		{[]int64{65536}, "H", nil, api.ErrArg},
		{[]int64{-1}, "H", nil, api.ErrArg},
		{[]int64{32768}, "h", nil, api.ErrArg},
		{[]int64{-32769}, "h", nil, api.ErrArg},
		{[]int64{4294967296}, "I", nil, api.ErrArg},
		{[]int64{-1}, "I", nil, api.ErrArg},
		{nil, "b", nil, api.ErrArg},
		{[]int64{1}, "", nil, api.ErrArg},
		{[]int64{1}, "bb", nil, api.ErrArg},
		{[]int64{1, 2}, "b", nil, api.ErrArg},
		{[]int64{1}, "B", nil, api.ErrArg},
		{[]int64{1}, "i", nil, api.ErrArg},
		{[]int64{1, 1}, "b ", nil, api.ErrArg},
		{[]int64{1, 1}, "\xC3\xA9", nil, api.ErrArg},
		{[]int64{1}, "\xC3\xA9", nil, api.ErrArg},
		{[]int64{1, 2, 3, 256}, "HhIb", nil, api.ErrArg},
	} {
		if b, e := bin.Put(x.l, x.plan); !slices.Equal(b, x.b) || e != x.e || e != api.OK && b != nil {
			t.Errorf("Put(%d, %q) = %d %d, want %d %d", x.l, x.plan, b, e, x.b, x.e)
		}
	}
}

// numbersAround are those at which ranges end, and far ones.
func numbersAround() []int64 {
	l := []int64{math.MinInt64, math.MinInt64 + 1, -1 << 32, -1 << 31, -65536, math.MaxInt64, 1<<32 + 5, 1 << 33}
	for _, n := range []int64{-32768, 0, 128, 255, 256, 32767, 65535, 1 << 24, 1 << 31, 1 << 32} {
		l = append(l, n-2, n-1, n, n+1, n+2)
	}
	return l
}

// P4.4: every byte as a letter, with numbers around all ranges' ends.
func TestPutEveryLetter(t *testing.T) {
	for c := range 256 {
		for _, n := range numbersAround() {
			samePut(t, []int64{n}, string([]byte{byte(c)}))
		}
	}
}

// anyPlan tells a plan and numbers for it, most of which are in their ranges.
func anyPlan(r *rand.Rand) ([]int64, string) {
	var l []int64
	var plan []byte
	for range r.Intn(12) {
		name := "bHhI"[r.Intn(4)]
		c, _ := letterOf(name)
		n := c.least + r.Int63n(c.greatest-c.least+1)
		if r.Intn(30) == 0 {
			around := numbersAround()
			n = around[r.Intn(len(around))]
		}
		l, plan = append(l, n), append(plan, name)
	}
	return l, string(plan)
}

// P4.4: plans of all letters.
func TestPutPlans(t *testing.T) {
	r := rand.New(rand.NewSource(44))
	for range 5000 {
		l, plan := anyPlan(r)
		samePut(t, l, plan)
		samePut(t, append(l, 1), plan)
		samePut(t, l, plan+"I")
	}
}

// P4.4: as many numbers as there may be, and one more, whatever the plan says.
func TestPutMany(t *testing.T) {
	l := make([]int64, api.MaxFont+1)
	l[api.MaxFont-1], l[api.MaxFont] = 7, 8
	plan := strings.Repeat("b", api.MaxFont)
	if b, e := bin.Put(l[:api.MaxFont], plan); e != api.OK || len(b) != api.MaxFont || b[api.MaxFont-1] != 7 || b[0] != 0 {
		t.Error("MaxFont numbers", len(b), e)
	}
	l[0] = -1
	for _, p := range []string{plan + "b", plan, "", "x", strings.Repeat("x", api.MaxFont+1)} {
		if b, e := bin.Put(l, p); e != api.ErrLimit || b != nil {
			t.Errorf("one more, a plan of %d: %d", len(p), e)
		}
	}
	if b, e := bin.Put(l[:api.MaxFont], plan); e != api.ErrArg || b != nil {
		t.Error("one out of its range", e)
	}
}

// P4.6: numbers are only read, answers are new.
func TestPutMemory(t *testing.T) {
	behind := []int64{258, -2, 5, 6}
	whole := slices.Clone(behind)
	b, _ := bin.Put(behind[:3], "Hhb")
	again, _ := bin.Put(behind[:3], "Hhb")
	if !slices.Equal(behind, whole) {
		t.Errorf("what is handed in is changed: %d", behind)
	}
	clear(b[:cap(b)])
	if !slices.Equal(again, []byte{1, 2, 255, 254, 5}) {
		t.Errorf("two answers share their memory: %d", again)
	}
}
