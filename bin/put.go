package bin

import (
	"math"

	"calamus/api"
)

// kind is which numbers a plan's letter has, and in how many bytes.
type kind struct {
	least, greatest int64
	size            int
}

// kindOf tells the kind of a plan's letter; of others one without numbers.
func kindOf(letter byte) kind {
	switch letter {
	case 'b':
		return kind{0, math.MaxUint8, 1}
	case 'H':
		return kind{0, math.MaxUint16, 2}
	case 'h':
		return kind{math.MinInt16, math.MaxInt16, 2}
	case 'I':
		return kind{0, math.MaxUint32, 4}
	}
	return kind{least: 1}
}

// put puts a number behind bytes, by its lowest bits, which of a number below 0
// are those of 65536 more; false, if it is none of the kind.
func (k kind) put(b []byte, n int64) ([]byte, bool) {
	if n < k.least || n > k.greatest {
		return nil, false
	}
	for at := k.size - 1; at >= 0; at-- {
		b = append(b, byte(n>>(8*at)))
	}
	return b, true
}

// Put tells the bytes of numbers, by a plan.
func Put(l []int64, plan string) ([]byte, api.Errno) {
	if len(l) > api.MaxFont {
		return nil, api.ErrLimit
	}
	if len(plan) != len(l) {
		return nil, api.ErrArg
	}
	var b []byte
	for i, n := range l {
		var ok bool
		if b, ok = kindOf(plan[i]).put(b, n); !ok {
			return nil, api.ErrArg
		}
	}
	return b, api.OK
}
