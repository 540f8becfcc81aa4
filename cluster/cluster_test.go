package cluster_test

import (
	"math"
	"slices"
	"testing"

	"calamus/cluster"
)

// sameBounds holds a text's clusters against those that it should have, and
// asks at each place whether two are parted there.
func sameBounds(t *testing.T, l []rune, want []int) {
	t.Helper()
	if b := cluster.Bounds(l); !slices.Equal(b, want) {
		t.Fatalf("Bounds(%X) = %d, want %d", l, b, want)
	}
	for at := -1; at <= len(l)+1; at++ {
		parted := at != 0 && slices.Contains(want, at)
		if cluster.Parted(l, at) != parted {
			t.Fatalf("Parted(%X, %d), want %t", l, at, parted)
		}
	}
}

// P3.1, by hand: the chapter's examples, and each rule.
func TestBoundsByHand(t *testing.T) {
	for _, x := range []struct {
		l    []rune
		want []int
	}{
		{nil, nil},
		{[]rune{}, nil},
		{[]rune{'a'}, []int{0}},
		{[]rune{-1, 0x110000, math.MinInt32, math.MaxInt32}, []int{0, 1, 2, 3}},
		// The chapter's.
		{[]rune{'a', 0x301, 'b'}, []int{0, 2}},
		{[]rune{0xD, 0xA}, []int{0}},
		{[]rune{0xA, 0xD}, []int{0, 1}},
		{[]rune{0x1100, 0x1161, 0x11A8, 0xAC00, 0x11A8, 0x11A8, 0x1100}, []int{0, 3, 6}},
		{[]rune{0x1F1E6, 0x1F1E7, 0x1F1E8, 0x1F1E9, 0x1F1EA}, []int{0, 2, 4}},
		{[]rune{0x1F468, 0x200D, 0x1F469, 0x301, 0x200D, 0x1F466, 'a', 0x200D, 0x1F466}, []int{0, 6, 8}},
		{[]rune{0x600, 0x61, 0x301}, []int{0}},
		{[]rune{0x301, 0x301}, []int{0}},
		{[]rune{0xA, 0x301}, []int{0, 1}},
		// 3 to 5: controls are alone, but CR LF; nothing hangs on them, they hang on nothing.
		{[]rune{0xD, 0xD, 0xA, 0xA, 0xD}, []int{0, 1, 3, 4}},
		{[]rune{0xD, 0x301, 0xA}, []int{0, 1, 2}},
		{[]rune{0xD, 0x200D, 0xAD, 0x200D}, []int{0, 1, 2, 3}},
		{[]rune{0x600, 0xA, 0x600, 0xD, 0x600, 0x200B, 'a'}, []int{0, 1, 2, 3, 4, 5, 6}},
		{[]rune{0x1100, 0xAD, 0x1161}, []int{0, 1, 2}},
		// 6 to 8.
		{[]rune{0x1100, 0x1100, 0xAC00, 0x1161}, []int{0}},
		{[]rune{0x1100, 0xAC01, 0x11A8}, []int{0}},
		{[]rune{0x1100, 0x11A8}, []int{0, 1}},
		{[]rune{0xAC00, 0xAC00}, []int{0, 1}},
		{[]rune{0xAC00, 0x1161, 0x1161, 0x11A8, 0x1161}, []int{0, 4}},
		{[]rune{0xAC01, 0x1161}, []int{0, 1}},
		{[]rune{0xAC01, 0x11A8, 0x11A8, 0xAC01}, []int{0, 3}},
		{[]rune{0x1100, 0x301, 0x1161}, []int{0, 2}},
		// 9 and 9b.
		{[]rune{0x301, 'a', 0x200D, 0x200D, 0x64E, 'b'}, []int{0, 1, 5}},
		{[]rune{0x6DD, 0x600, 0x1F1E6, 0x1F1E7, 0x1F1E8}, []int{0, 4}},
		{[]rune{0x600, 0x301, 'a'}, []int{0, 2}},
		{[]rune{'a', 0x600}, []int{0, 1}},
		// 11.
		{[]rune{0x1F468, 0x1F3FB, 0x1F3FC, 0x200D, 0xA9}, []int{0}},
		{[]rune{0x1F468, 0x200D, 0x200D, 0x1F468}, []int{0, 3}},
		{[]rune{0x1F468, 0x200D, 0x301, 0x1F468}, []int{0, 3}},
		{[]rune{0x1F468, 0x1F468}, []int{0, 1}},
		{[]rune{0x1F468, 0x301, 0x1F468}, []int{0, 2}},
		{[]rune{0x200D, 0x1F468}, []int{0, 1}},
		{[]rune{0x301, 0x200D, 0x1F468}, []int{0, 2}},
		{[]rune{0x1F468, 0x200D, 'a', 0x200D, 0x1F468}, []int{0, 2, 4}},
		{[]rune{0x1F468, 0x200D, 'a'}, []int{0, 2}},
		// 12 and 13.
		{[]rune{'a', 0x1F1E6, 0x1F1E6, 0x1F1E6, 'a', 0x1F1E6, 0x1F1E6}, []int{0, 1, 3, 4, 5}},
		{[]rune{0x1F1E6, 0x301, 0x1F1E6, 0x1F1E6, 0x1F1E6}, []int{0, 2, 4}},
		{[]rune{0x1F1E6, 0x1F1E6, 0x200D, 0x1F1E6, 0x1F1E6}, []int{0, 3}},
		{[]rune{0x600, 0x1F1E6, 0x1F1E6, 0x1F1E6}, []int{0, 3}},
	} {
		sameBounds(t, x.l, x.want)
	}
}

// P3.1: places that are none.
func TestPartedPlaces(t *testing.T) {
	for _, l := range [][]rune{nil, {}, {'a'}, {'a', 'b'}} {
		for _, at := range []int{math.MinInt, -2, -1, 0, len(l), len(l) + 1, math.MaxInt} {
			if cluster.Parted(l, at) {
				t.Errorf("Parted(%X, %d)", l, at)
			}
		}
	}
	if !cluster.Parted([]rune{'a', 'b'}, 1) {
		t.Error("a b, 1")
	}
}

// P3.1: every text of up to four characters, of each class one, and longer ones
// of the classes that count or join.
func TestBoundsEvery(t *testing.T) {
	all := []rune{'a', 0xD, 0xA, 0xAD, 0x301, 0x200D, 0x1F1E6, 0x600, 0x1100, 0x1161, 0x11A8, 0xAC00, 0xAC01, 0x1F468}
	for n := range 5 {
		everyText(all, n, func(l []rune) { sameBounds(t, l, boundsByTable(l)) })
	}
	for n := range 8 {
		everyText([]rune{'a', 0x301, 0x200D, 0x1F468, 0x1F1E6}, n, func(l []rune) { sameBounds(t, l, boundsByTable(l)) })
	}
}

// P3.1: texts of all characters, and runes that are none.
func TestBoundsAnywhere(t *testing.T) {
	someTexts(3000, func(l []rune) { sameBounds(t, l, boundsByTable(l)) })
}

// P3.1: rows that are long, so that what is counted is counted once.
func TestBoundsLong(t *testing.T) {
	const n = 1 << 20
	flags := slices.Repeat([]rune{0x1F1E6}, n+1)
	if b := cluster.Bounds(flags); len(b) != n/2+1 || b[1] != 2 || b[n/2] != n {
		t.Error("flags", len(b))
	}
	if !cluster.Parted(flags, n) || cluster.Parted(flags, n-1) {
		t.Error("the last flags")
	}
	marks := slices.Repeat([]rune{0x301}, n)
	joined := slices.Concat([]rune{0x1F468}, marks, []rune{0x200D, 0x1F468, 0x1F468})
	if b := cluster.Bounds(joined); !slices.Equal(b, []int{0, n + 3}) {
		t.Error("marks", b)
	}
	if cluster.Parted(joined, n+2) || !cluster.Parted(joined, n+3) {
		t.Error("behind the marks")
	}
	for at := 1; at < len(marks); at++ {
		if cluster.Parted(marks, at) {
			t.Fatal("parted marks", at)
		}
	}
}

// P3.2.
func TestMemory(t *testing.T) {
	behind := []rune{'a', 0x301, 'b', 0xD, 0xA, 0x1F468, 0x200D, 0x1F468, 0x1F1E6, 0x301}
	whole := slices.Clone(behind)
	l := behind[:6]
	want := []int{0, 2, 3, 5}
	b, again := cluster.Bounds(l), cluster.Bounds(l)
	for at := range behind {
		cluster.Parted(l, at)
	}
	if !slices.Equal(behind, whole) {
		t.Errorf("what is handed in is changed: %X", behind)
	}
	clear(behind)
	clear(b[:cap(b)])
	if !slices.Equal(again, want) {
		t.Errorf("two answers share their memory: %d, want %d", again, want)
	}
}
