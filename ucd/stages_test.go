package ucd

import "testing"

// Of each table the first row counts that has a character.
func TestFirstRowCounts(t *testing.T) {
	s := laid(9, []row{
		{1, []span{{0x105, 0x107}, {0x10FFFF, 0x10FFFF}}},
		{2, []span{{0, 0}, {0x104, 0x106}, {0x108, 0x108}, {0x10FFFE, 0x10FFFF}}},
		{3, []span{{0x106, 0x109}}},
	})
	for _, x := range []struct {
		r     rune
		value uint8
	}{
		{0, 2}, {1, 9}, {0x103, 9}, {0x104, 2}, {0x105, 1}, {0x106, 1}, {0x107, 1}, {0x108, 2}, {0x109, 3}, {0x10A, 9}, {0x206, 9},
		{0x10FFFD, 9}, {0x10FFFE, 2}, {0x10FFFF, 1}, {0x110000, 9}, {0x110104, 9}, {-1, 9}, {-0x80000000, 9}, {0x7FFFFFFF, 9},
	} {
		if n := s.at(x.r); n != x.value {
			t.Errorf("at(%X) = %d, want %d", x.r, n, x.value)
		}
	}
}
