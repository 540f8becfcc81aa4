package sfnt_test

import (
	"math/big"
	"math/rand"
	"slices"
	"testing"

	"calamus/api"
	"calamus/sfnt"
)

// put tells the bytes of numbers: of a plan's letters b one byte, W and S two,
// L four. A number below 0 is one of a wrap-round.
func put(plan string, l ...int) []byte {
	if len(plan) != len(l) {
		panic(plan)
	}
	var b []byte
	for i, n := range l {
		if plan[i] == 'L' {
			b = append(b, byte(n>>24), byte(n>>16))
		}
		if plan[i] != 'b' {
			b = append(b, byte(n>>8))
		}
		b = append(b, byte(n))
	}
	return b
}

// numberAt tells the number of size bytes from a place on; false, if they are
// not all there.
func numberAt(b []byte, at, size int) (int, bool) {
	if at < 0 || at > len(b)-size {
		return 0, false
	}
	n := 0
	for _, part := range b[at : at+size] {
		n = 256*n + int(part)
	}
	return n, true
}

// is: does that number stand there?
func is(b []byte, at, size, n int) bool {
	m, ok := numberAt(b, at, size)
	return ok && m == n
}

func tag(s string) api.Tag { return api.Tag([]byte((s + "    ")[:4])) }

// sumOf tells the sum that a table's record has to hold.
func sumOf(name api.Tag, body []byte) int {
	l := slices.Clone(body)
	for at := 8; at < 12 && at < len(l) && name == tag("head"); at++ {
		l[at] = 0
	}
	for len(l)%4 != 0 {
		l = append(l, 0)
	}
	sum := new(big.Int)
	for at := 0; at < len(l); at += 4 {
		sum.Add(sum, new(big.Int).SetBytes(l[at:at+4]))
	}
	return int(sum.Mod(sum, big.NewInt(1<<32)).Int64())
}

// openingOf tells the numbers ahead of the records.
func openingOf(n int) []byte {
	power, exponent := 1, 0
	for power*2 <= n {
		power, exponent = power*2, exponent+1
	}
	return put("LWWWW", 65536, n, 16*power, exponent, 16*n-16*power)
}

// record is one of a font, whatever it says.
type record struct {
	name          api.Tag
	sum, at, size int
}

func (r record) bytes() []byte {
	return append(r.name[:], put("LLL", r.sum, r.at, r.size)...)
}

// laid tells the bytes of these records, and behind them the others.
func laid(records []record, others []byte) []byte {
	b := openingOf(len(records))
	for _, r := range records {
		b = append(b, r.bytes()...)
	}
	return append(b, others...)
}

// joinedByWords tells the font of tables as the chapter's words say.
func joinedByWords(tags []api.Tag, bodies [][]byte) []byte {
	var records []record
	var others []byte
	chosen := 0
	for i, body := range bodies {
		at := 12 + 16*len(tags) + len(others)
		records = append(records, record{tags[i], sumOf(tags[i], body), at, len(body)})
		others = append(others, body...)
		for len(others)%4 != 0 {
			others = append(others, 0)
		}
		if tags[i] == tag("head") && len(body) >= 12 {
			chosen = at + 8
		}
	}
	b := laid(records, others)
	if chosen > 0 {
		copy(b[chosen:], []byte{0, 0, 0, 0})
		copy(b[chosen:], put("L", 2981146554-sumOf(tag(""), b)))
	}
	return b
}

// anyBytes tells n bytes, of which many are great, so that sums run over.
func anyBytes(r *rand.Rand, n int) []byte {
	b := make([]byte, n)
	for i := range b {
		b[i] = byte(r.Intn(256) | r.Intn(2)*240)
	}
	return b
}

// anyTables tells one or more tables, the names of which rise; of some head is one.
func anyTables(r *rand.Rand) (tags []api.Tag, bodies [][]byte) {
	n := 1 + r.Intn(6)
	if r.Intn(20) == 0 {
		n = 1 + r.Intn(64)
	}
	names := map[api.Tag]bool{}
	for len(names) < n {
		names[api.Tag(anyBytes(r, 4))] = true
		if r.Intn(n) == 0 {
			names[tag("head")] = true
		}
	}
	for name := range names {
		tags = append(tags, name)
	}
	slices.SortFunc(tags, func(a, b api.Tag) int { return slices.Compare(a[:], b[:]) })
	for range tags {
		bodies = append(bodies, anyBytes(r, r.Intn(30)))
	}
	return tags, bodies
}

func isFont(t *testing.T, what string, b []byte, want []sfnt.Table) {
	t.Helper()
	if l, e := sfnt.Tables(b); e != api.OK || !slices.Equal(l, want) {
		t.Errorf("%s: %v %d, want %v", what, l, e, want)
	}
}

func isNoFont(t *testing.T, what string, b []byte) {
	t.Helper()
	if l, e := sfnt.Tables(b); e != api.ErrFont || l != nil {
		t.Errorf("%s: %v %d, want ErrFont", what, l, e)
	}
}
