package bin

import (
	"math"
	"sync"

	"calamus/api"
)

// putter puts a number behind bytes; false, if it is out of the range.
type putter func(b []byte, n int64) ([]byte, bool)

// How a number is put, by the plan's letters: made when it is asked first.
var (
	putterOnce sync.Once
	putters    map[byte]putter
)

// putterOf tells how numbers of that letter are put, if it is one of a plan's.
func putterOf(letter byte) (putter, bool) {
	putterOnce.Do(func() { putters = lettered() })
	put, ok := putters[letter]
	return put, ok
}

// lettered makes the map of all letters.
func lettered() map[byte]putter {
	return map[byte]putter{
		'b': within(0, math.MaxUint8, 1),
		'H': within(0, math.MaxUint16, 2),
		'h': within(math.MinInt16, math.MaxInt16, 2),
		'I': within(0, math.MaxUint32, 4),
	}
}

// within tells how numbers of that range are put in so many bytes: by their
// lowest bits, which of a number below 0 are those of 65536 more.
func within(least, greatest int64, size int) putter {
	return func(b []byte, n int64) ([]byte, bool) {
		if n < least || n > greatest {
			return nil, false
		}
		for at := size - 1; at >= 0; at-- {
			b = append(b, byte(n>>(8*at)))
		}
		return b, true
	}
}

// Put tells the bytes of numbers, by a plan.
func Put(l []int64, plan string) ([]byte, api.Errno) {
	if len(l) > api.MaxFont {
		return nil, api.ErrLimit
	}
	if len(plan) != len(l) {
		return nil, api.ErrArg
	}
	var b []byte
	for i, n := range l {
		put, ok := putterOf(plan[i])
		if !ok {
			return nil, api.ErrArg
		}
		if b, ok = put(b, n); !ok {
			return nil, api.ErrArg
		}
	}
	return b, api.OK
}
