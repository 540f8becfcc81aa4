package fixed

import (
	"math"
	"math/bits"

	"calamus/api"
)

// words is a number of 128 bits without a sign; its high word stands ahead.
type words [2]uint64

// magnitude tells how far a number is from 0.
func magnitude(n int64) uint64 {
	if n < 0 {
		// The least number has no positive one beside it; here its wrap-round
		// is just what is wanted.
		return uint64(-n)
	}
	return uint64(n)
}

// product tells a b.
func product(a, b uint64) words {
	high, low := bits.Mul64(a, b)
	return words{high, low}
}

// plus tells w + n.
func (w words) plus(n uint64) words {
	low, carry := bits.Add64(w[1], n, 0)
	return words{w[0] + carry, low}
}

// over tells w / d, cut down, and the rest.
func (w words) over(d uint64) (words, uint64) {
	low, rest := bits.Div64(w[0]%d, w[1], d)
	return words{w[0] / d, low}, rest
}

// number tells w, or -w, if it is a number.
func (w words) number(below bool) int64 {
	greatest := uint64(math.MaxInt64)
	if below {
		greatest++
	}
	if w[0] != 0 || w[1] > greatest {
		panic(api.ErrFlow)
	}
	if below {
		return -int64(w[1])
	}
	return int64(w[1])
}
