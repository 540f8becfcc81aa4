package ucd

import "testing"

// A table says of each character what it is laid out of, and of all runes that
// are none the same.
func TestLaid(t *testing.T) {
	known := func(r rune) uint8 {
		switch {
		case r < 0, r > 0x10FFFF:
			return 9
		case r == 0, r == 0x10FFFF, within(r, 0x105, 0x107), within(r, 0x20500, 0x207FF):
			return 1
		case r%0x301 == 0:
			return uint8(r >> 8)
		}
		return 2
	}
	s := laid(known)
	for r := rune(-0x200); r < 0x110200; r++ {
		if n := s.at(r); n != known(r) {
			t.Fatalf("at(%X) = %d, want %d", r, n, known(r))
		}
	}
	for _, r := range []rune{-0x80000000, -0x7FFFFF00, 0x1000105, 0x7FFFFFFF} {
		if n := s.at(r); n != 9 {
			t.Errorf("at(%X) = %d, want 9", r, n)
		}
	}
}

// Blocks that say the same are one.
func TestBlocksOnce(t *testing.T) {
	s := laid(func(r rune) uint8 {
		if within(r, 0x400, 0x5FF) {
			return 1
		}
		return 0
	})
	if len(s.first) != 0x110000/blockSize || len(s.second) != 2 {
		t.Errorf("%d blocks for %d", len(s.second), len(s.first))
	}
}
