package ucd_test

import (
	"slices"
	"sync"
	"testing"

	"calamus/ucd"
)

// known tells all that is known of a character, as numbers.
func known(r rune) []int {
	out := []int{int(ucd.Class(r)), int(ucd.Joining(r)), int(ucd.Break(r)), int(ucd.Cluster(r)), int(ucd.Script(r))}
	mirror, mirrored := ucd.Mirror(r)
	pair, open, bracket := ucd.Bracket(r)
	out = append(out, int(mirror), int(pair))
	for _, is := range []bool{mirrored, open, bracket, ucd.Wide(r), ucd.Space(r)} {
		if is {
			out = append(out, 1)
		} else {
			out = append(out, 0)
		}
	}
	return out
}

// Many that ask at the same time are told the same: of the files whose tests
// ask Tabled this one's name is the first, so that its test lays the tables.
func TestAskedAtOnce(t *testing.T) {
	want := map[rune][]int{
		0x28:     {14, 0, 19, 0, 0, 0x29, 0x29, 1, 1, 1, 0, 0},
		0x41:     {1, 0, 0, 0, 2, 0x41, 0, 0, 0, 0, 0, 0},
		0x64E:    {9, 4, 9, 4, 1, 0x64E, 0, 0, 0, 0, 0, 0},
		0x3000:   {13, 0, 11, 0, 0, 0x3000, 0, 0, 0, 0, 1, 1},
		0xAC01:   {1, 0, 37, 12, 6, 0xAC01, 0, 0, 0, 0, 1, 0},
		-1:       {1, 0, 0, 0, 0, -1, 0, 0, 0, 0, 0, 0},
		0x110000: {1, 0, 0, 0, 0, 0x110000, 0, 0, 0, 0, 0, 0},
	}
	var wait sync.WaitGroup
	for range 64 {
		wait.Go(func() {
			for r, all := range want {
				if told := known(r); !slices.Equal(told, all) {
					t.Errorf("of %X: %d, want %d", r, told, all)
				}
				if e := ucd.Tabled(r); int(e.Class) != all[0] || int(e.Break) != all[2] || int(e.Mirror) != all[5] {
					t.Errorf("tabled of %X: %+v, want %d", r, e, all)
				}
			}
		})
	}
	wait.Wait()
}
