package sfnt_test

import (
	"math/rand"
	"slices"
	"strconv"
	"testing"

	"calamus/api"
	"calamus/sfnt"
)

// tablesByWords tells the tables of a font, if it is well-formed, as the
// chapter's words say.
func tablesByWords(b []byte) ([]sfnt.Table, bool) {
	n, ok := numberAt(b, 4, 2)
	if !ok || len(b) > 16777216 || n < 1 || n > 64 || len(b) < 12+16*n || !slices.Equal(b[:12], openingOf(n)) {
		return nil, false
	}
	owned := make([]bool, len(b))
	var l []sfnt.Table
	for i := range n {
		r := b[12+16*i:]
		at, _ := numberAt(r, 8, 4)
		size, _ := numberAt(r, 12, 4)
		if i > 0 && string(r[:4]) <= string(l[i-1].Tag[:]) || at%4 != 0 || at < 12+16*n || at+size > len(b) {
			return nil, false
		}
		for place := at; place < at+size; place++ {
			if owned[place] {
				return nil, false
			}
			owned[place] = true
		}
		if !is(r, 4, 4, sumOf(api.Tag(r[:4]), b[at:at+size])) {
			return nil, false
		}
		l = append(l, sfnt.Table{Tag: api.Tag(r[:4]), At: at, Len: size})
	}
	return l, true
}

// sameTables: does Tables tell what the words say? Tells whether it is a font.
func sameTables(t *testing.T, b []byte) bool {
	t.Helper()
	want, ok := tablesByWords(b)
	wrong := api.OK
	if !ok {
		wrong = api.ErrFont
	}
	if l, e := sfnt.Tables(b); !slices.Equal(l, want) || e != wrong {
		t.Fatalf("%d: %v %d, want %v %d", b, l, e, want, wrong)
	}
	return ok
}

// P5.1: the chapter's example, each byte of it changed, cut off anywhere, and
// with more behind.
func TestTablesByHand(t *testing.T) {
	b := []byte{0, 1, 0, 0, 0, 1, 0, 16, 0, 0, 0, 0, 97, 98, 49, 50, 1, 2, 3, 0, 0, 0, 0, 28, 0, 0, 0, 3, 1, 2, 3, 0}
	want := []sfnt.Table{{Tag: tag("ab12"), At: 28, Len: 3}}
	isFont(t, "the example", b, want)
	isFont(t, "without the nought behind", b[:31], want)
	isFont(t, "more behind", append(slices.Clone(b), 1, 2, 3), want)
	for n := range 31 {
		isNoFont(t, "its first "+strconv.Itoa(n), b[:n])
	}
	for at := range b {
		for n := range 256 {
			c := slices.Clone(b)
			c[at] = byte(n)
			sameTables(t, c)
		}
	}
	isNoFont(t, "nothing", nil)
}

// two are the records of two tables, a of five bytes, b of four, and these.
func two() ([]record, []byte) {
	a, b := []byte{1, 2, 3, 4, 5}, []byte{255, 255, 255, 254}
	return []record{{tag("a"), sumOf(tag("a"), a), 44, 5}, {tag("b"), sumOf(tag("b"), b), 52, 4}},
		append(append(a, 0, 0, 0), b...)
}

// P5.1: the numbers ahead of the records.
func TestOpeningWrong(t *testing.T) {
	records, others := two()
	b := laid(records, others)
	isFont(t, "two", b, []sfnt.Table{{Tag: tag("a"), At: 44, Len: 5}, {Tag: tag("b"), At: 52, Len: 4}})
	for what, numbers := range map[string][]byte{
		"version 65537":         put("LWWWW", 65537, 2, 32, 1, 0),
		"version 0":             put("LWWWW", 0, 2, 32, 1, 0),
		"OTTO":                  append([]byte("OTTO"), put("WWWW", 2, 32, 1, 0)...),
		"true":                  append([]byte("true"), put("WWWW", 2, 32, 1, 0)...),
		"no table":              put("LWWWW", 65536, 0, 0, 0, 0),
		"three tables":          put("LWWWW", 65536, 3, 32, 1, 16),
		"a power that is less":  put("LWWWW", 65536, 2, 16, 1, 16),
		"a power that is more":  put("LWWWW", 65536, 2, 64, 1, 0),
		"an exponent less":      put("LWWWW", 65536, 2, 32, 0, 0),
		"an exponent more":      put("LWWWW", 65536, 2, 32, 2, 0),
		"a rest that is more":   put("LWWWW", 65536, 2, 32, 1, 16),
		"a rest that is less":   put("LWWWW", 65536, 2, 32, 1, -16),
		"all of the one before": put("LWWWW", 65536, 2, 16, 0, 0),
	} {
		isNoFont(t, what, append(numbers, b[12:]...))
	}
}

// P5.1: each number of tables, up to one more than may be; tables of no bytes.
func TestHowManyTables(t *testing.T) {
	for n := range 70 {
		var records []record
		var want []sfnt.Table
		for i := range n {
			name := api.Tag{0, 0, 0, byte(i)}
			records = append(records, record{name, 0, 12 + 16*n, 0})
			want = append(want, sfnt.Table{Tag: name, At: 12 + 16*n})
		}
		if b := laid(records, nil); n >= 1 && n <= 64 {
			isFont(t, strconv.Itoa(n), b, want)
		} else {
			isNoFont(t, strconv.Itoa(n), b)
		}
	}
}

// P5.1: names, places, lengths, sums that may not be.
func TestRecordsWrong(t *testing.T) {
	for what, change := range map[string]func(l []record){
		"two names alike":               func(l []record) { l[1].name = l[0].name },
		"names that fall":               func(l []record) { l[0].name, l[1].name = l[1].name, l[0].name },
		"names that fall at the last":   func(l []record) { l[0].name, l[1].name = tag("aaab"), tag("aaaa") },
		"names as bytes with a sign":    func(l []record) { l[0].name, l[1].name = api.Tag{128}, api.Tag{127} },
		"a sum one more":                func(l []record) { l[0].sum++ },
		"a sum one less":                func(l []record) { l[1].sum-- },
		"a place in between":            func(l []record) { l[0].at += 2 },
		"a place one more":              func(l []record) { l[1] = record{l[1].name, 0, 53, 0} },
		"in the records":                func(l []record) { l[0] = record{l[0].name, 0, 40, 0} },
		"at the beginning":              func(l []record) { l[0] = record{l[0].name, 0, 0, 0} },
		"one byte past the end":         func(l []record) { l[1].size++ },
		"a place behind the end":        func(l []record) { l[1] = record{l[1].name, 0, 60, 0} },
		"a length that is huge":         func(l []record) { l[1].size = 1<<32 - 1 },
		"a place that is huge":          func(l []record) { l[1].at = 1<<32 - 4 },
		"both huge, 0 by a wrap":        func(l []record) { l[1].at, l[1].size = 1<<32-4, 4 },
		"all bytes twice":               func(l []record) { l[1].at, l[1].size, l[1].sum = l[0].at, l[0].size, l[0].sum },
		"one byte twice":                func(l []record) { l[0].size, l[0].sum = 9, l[0].sum-1<<24 },
		"one in the midst of the other": func(l []record) { l[0].size, l[0].sum, l[1] = 12, l[0].sum-2, record{l[1].name, 5 << 24, 48, 1} },
	} {
		records, others := two()
		change(records)
		b := laid(records, others)
		isNoFont(t, what, b)
		sameTables(t, b)
	}
	records, others := two()
	isNoFont(t, "cut off in the last table", laid(records, others[:len(others)-1]))
	isNoFont(t, "of 12 bytes", openingOf(1))
}

// P5.1: a table that may be alone may not be beside one that has its bytes, too.
func TestOverlapsAlone(t *testing.T) {
	records, others := two()
	whole := laid(records, others)
	for _, size := range []int{9, 12} {
		one := laid([]record{{tag("a"), sumOf(tag("a"), whole[44:44+size]), 28, size}}, others)
		isFont(t, "one alone", one, []sfnt.Table{{Tag: tag("a"), At: 28, Len: size}})
		records[0].size, records[0].sum = size, sumOf(tag("a"), whole[44:44+size])
		isNoFont(t, "with the other one", laid(records, others))
	}
}

// P5.1: what may be: gaps, another order, tables of no bytes anywhere.
func TestTablesLoose(t *testing.T) {
	records, others := two()
	records[0], records[1] = record{tag("a"), records[1].sum, 52, 4}, record{tag("b"), records[0].sum, 44, 5}
	isFont(t, "another order", laid(records, others), []sfnt.Table{{Tag: tag("a"), At: 52, Len: 4}, {Tag: tag("b"), At: 44, Len: 5}})
	records, others = two()
	others[5], others[6], others[7] = 7, 8, 9
	isFont(t, "bytes between", laid(records, others), []sfnt.Table{{Tag: tag("a"), At: 44, Len: 5}, {Tag: tag("b"), At: 52, Len: 4}})
	for at := 44; at <= 56; at += 4 {
		records, others = two()
		records[0].sum, records[0].at, records[0].size = 0, at, 0
		isFont(t, "of no bytes at "+strconv.Itoa(at), laid(records, others), []sfnt.Table{{Tag: tag("a"), At: at}, {Tag: tag("b"), At: 52, Len: 4}})
	}
	records, others = two()
	records[1].at, others = 60, append(others, 0, 0, 0, 0, 0, 0, 0, 0)
	copy(others[16:], others[8:12])
	isFont(t, "a gap", laid(records, others), []sfnt.Table{{Tag: tag("a"), At: 44, Len: 5}, {Tag: tag("b"), At: 60, Len: 4}})
}

// P5.1: in the table head, and in no other, four bytes are not summed.
func TestSumOfHead(t *testing.T) {
	for _, name := range []string{"head", "heae", "Head", "hea", "hhea"} {
		for size := range 20 {
			body := make([]byte, size)
			for at := range body {
				body[at] = byte(at + 1)
			}
			b := laid([]record{{tag(name), sumOf(tag(name), body), 28, size}}, body)
			isFont(t, name, b, []sfnt.Table{{Tag: tag(name), At: 28, Len: size}})
			for at := range body {
				c := slices.Clone(b)
				c[28+at]++
				if name == "head" && at >= 8 && at < 12 {
					isFont(t, name, c, []sfnt.Table{{Tag: tag(name), At: 28, Len: size}})
				} else {
					isNoFont(t, name, c)
				}
			}
		}
	}
}

// anyRecords tells records that may be wrong, and the bytes that they tell of.
func anyRecords(r *rand.Rand) ([]record, []byte) {
	others := anyBytes(r, 4*r.Intn(12)+r.Intn(4))
	tags, _ := anyTables(r)
	begin := 12 + 16*len(tags)
	var records []record
	for _, name := range tags {
		at := 4 * r.Intn(len(others)/4+1)
		size := min(r.Intn(8)*r.Intn(2), len(others)-at)
		x := record{name, sumOf(name, others[at:at+size]), begin + at, size}
		if r.Intn(60) == 0 {
			x.at += r.Intn(17) - 8
		}
		if r.Intn(60) == 0 {
			x.size += r.Intn(10)
		}
		if r.Intn(60) == 0 {
			x.sum ^= 1 << r.Intn(32)
		}
		records = append(records, x)
	}
	if r.Intn(30) == 0 {
		i, k := r.Intn(len(records)), r.Intn(len(records))
		records[i], records[k] = records[k], records[i]
	}
	return records, others
}

// P5.1: records that may be wrong, and bytes that may be changed.
func TestTablesAtRandom(t *testing.T) {
	r := rand.New(rand.NewSource(51))
	fonts, none := 0, 0
	for range 20000 {
		b := laid(anyRecords(r))
		if r.Intn(4) == 0 {
			b[r.Intn(len(b))] ^= 1 << r.Intn(8)
		}
		if r.Intn(20) == 0 {
			b = b[:r.Intn(len(b))]
		}
		if sameTables(t, b) {
			fonts++
		} else {
			none++
		}
	}
	if fonts < 2000 || none < 2000 {
		t.Errorf("%d fonts, %d others", fonts, none)
	}
	for range 20000 {
		sameTables(t, anyBytes(r, r.Intn(60)))
	}
}

// P5.1: as many bytes as there may be, and one more.
func TestTablesMost(t *testing.T) {
	b := append(laid([]record{{tag("a"), 7 << 24, 28, 1}}, []byte{7}), make([]byte, api.MaxFont)...)
	want := []sfnt.Table{{Tag: tag("a"), At: 28, Len: 1}}
	isFont(t, "MaxFont", b[:api.MaxFont], want)
	isNoFont(t, "one more", b[:api.MaxFont+1])
	isFont(t, "one less", b[:api.MaxFont-1], want)
}
