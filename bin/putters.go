package bin

import (
	"sync"

	"calamus/api"
)

// putter puts a number behind bytes; false, if it is out of the range.
type putter func(b []byte, n int64) ([]byte, bool)

// How a number is put, by the plan's letters, beside Put, which does without
// it: made when it is asked first.
var (
	putterOnce sync.Once
	putters    map[byte]putter
)

// lettered makes the map of all letters.
func lettered() map[byte]putter {
	return map[byte]putter{'b': by('b'), 'H': by('H'), 'h': by('h'), 'I': by('I')}
}

// by tells how numbers of that letter are put.
func by(letter byte) putter {
	k := kindOf(letter)
	return func(b []byte, n int64) ([]byte, bool) { return k.put(b, n) }
}

// PutOne tells the bytes of one number, by a plan's letter: what Put tells of
// the two, out of the map.
func PutOne(n int64, letter byte) ([]byte, api.Errno) {
	putterOnce.Do(func() { putters = lettered() })
	put, ok := putters[letter]
	if !ok {
		return nil, api.ErrArg
	}
	b, ok := put(nil, n)
	if !ok {
		return nil, api.ErrArg
	}
	return b, api.OK
}
