package sfnt

import (
	"bytes"
	"math/bits"

	"calamus/api"
	"calamus/bin"
)

const (
	version     = 65536 // of a font, and of some of its tables
	mostTables  = 64
	openingSize = 12 // bytes ahead of the records
	recordSize  = 16
	unit        = 4 // tables begin at multiples of it
)

// tablesOf tells the tables of a well-formed font, in order.
func tablesOf(b []byte) []Table {
	requireFont(len(b) <= api.MaxFont)
	r := bin.Open(b)
	n := int(r.Word(4))
	requireFont(countable(n) && len(b) >= begin(n) && bytes.Equal(b[:openingSize], opening(n)))
	var l []Table
	for i := range n {
		at := openingSize + i*recordSize
		t := Table{api.Tag(b[at : at+4]), int(r.Long(at + 8)), int(r.Long(at + 12))}
		requireFont(i == 0 || before(l[i-1].Tag, t.Tag))
		requireFont(t.At%unit == 0 && t.At >= begin(n) && t.At+t.Len <= len(b))
		for _, ahead := range l {
			requireFont(t.apart(ahead))
		}
		requireFont(sum(t.Tag, b[t.At:t.At+t.Len]) == r.Long(at+4))
		l = append(l, t)
	}
	return l
}

// countable: may a font have so many tables?
func countable(n int) bool { return n >= 1 && n <= mostTables }

// begin tells where the records of n tables end.
func begin(n int) int { return openingSize + n*recordSize }

// opening tells the bytes ahead of the records of n tables.
func opening(n int) []byte {
	exponent := bits.Len(uint(n)) - 1
	power := 1 << exponent
	return numbers("IHHHH", version, n, 16*power, exponent, 16*n-16*power)
}

// numbers tells the bytes of numbers that are in their letters' ranges.
func numbers(plan string, l ...int) []byte {
	wide := make([]int64, len(l))
	for i, n := range l {
		wide[i] = int64(n)
	}
	b, _ := bin.Put(wide, plan)
	return b
}

// before: does a name rise to the next one?
func before(tag, next api.Tag) bool { return bytes.Compare(tag[:], next[:]) < 0 }

// isHead: is a name that of the table head?
func isHead(tag api.Tag) bool { return tag == api.Tag{'h', 'e', 'a', 'd'} }

// The place of the four bytes of the table head that are chosen last, by the
// sum of all: no sum can count them.
const (
	chosen    = 8
	chosenEnd = 12
)

// sum tells a table's sum, its chosen bytes as noughts, if it has such ones.
func sum(tag api.Tag, body []byte) uint32 {
	if !isHead(tag) {
		return bin.Sum(body)
	}
	ahead, behind := min(chosen, len(body)), min(chosenEnd, len(body))
	return bin.Sum(body[:ahead]) + bin.Sum(body[behind:])
}

// apart: is no byte in both tables?
func (t Table) apart(other Table) bool {
	return t.Len == 0 || other.Len == 0 || t.At+t.Len <= other.At || other.At+other.Len <= t.At
}
