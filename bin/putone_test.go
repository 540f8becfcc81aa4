package bin_test

import (
	"slices"
	"testing"

	"calamus/api"
	"calamus/bin"
)

// The map holds what Put tells: every byte as a letter, with numbers around all
// ranges' ends.
func TestPutOne(t *testing.T) {
	for c := range 256 {
		for _, n := range numbersAround() {
			letter := byte(c)
			want, wrong := putByTable([]int64{n}, string([]byte{letter}))
			if b, e := bin.PutOne(n, letter); !slices.Equal(b, want) || e != wrong || e != api.OK && b != nil {
				t.Errorf("PutOne(%d, %q) = %d %d, want %d %d", n, letter, b, e, want, wrong)
			}
		}
	}
}

// Two answers of PutOne share no memory.
func TestPutOneMemory(t *testing.T) {
	b, _ := bin.PutOne(258, 'H')
	again, _ := bin.PutOne(258, 'H')
	clear(b[:cap(b)])
	if !slices.Equal(again, []byte{1, 2}) {
		t.Errorf("two answers share their memory: %d", again)
	}
}
