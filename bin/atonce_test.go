package bin_test

import (
	"slices"
	"sync"
	"testing"

	"calamus/api"
	"calamus/bin"
)

// Many that put at the same time are told the same: of the files whose tests
// ask PutOne this one's name is the first, so that its test makes the map.
func TestPutAtOnce(t *testing.T) {
	var wait sync.WaitGroup
	for range 64 {
		wait.Go(func() {
			if b, e := bin.PutOne(-2, 'h'); e != api.OK || !slices.Equal(b, []byte{255, 254}) {
				t.Errorf("one: %d %d", b, e)
			}
			b, e := bin.Put([]int64{258, -2, 5, 1 << 31}, "HhbI")
			if e != api.OK || !slices.Equal(b, []byte{1, 2, 255, 254, 5, 128, 0, 0, 0}) {
				t.Errorf("%d %d", b, e)
			}
		})
	}
	wait.Wait()
}
