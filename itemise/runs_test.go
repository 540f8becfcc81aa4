package itemise_test

import (
	"math/rand"
	"slices"
	"testing"

	"calamus/api"
	"calamus/itemise"
)

// runsOf tells the runs of a text that may be.
func runsOf(t *testing.T, l []rune, levels []uint8) []itemise.Run {
	t.Helper()
	runs, e := itemise.Runs(l, levels)
	if e != api.OK {
		t.Fatalf("Runs(%X, %d): error %d", l, levels, e)
	}
	return runs
}

// sameRuns holds Runs against the chapter's words.
func sameRuns(t *testing.T, l []rune, levels []uint8) {
	t.Helper()
	if got, want := runsOf(t, l, levels), runsByWords(l, levels); !slices.Equal(got, want) {
		t.Fatalf("Runs(%X, %d) = %d, want %d", l, levels, got, want)
	}
}

// P14.2: by hand.
func TestRunsByHand(t *testing.T) {
	for _, x := range []struct {
		text   string
		levels []uint8
		want   []itemise.Run
	}{
		{"", nil, nil},
		{"a \u05d0", numbers("001"), []itemise.Run{{0, 2, 0, api.Latin}, {2, 3, 1, api.Hebrew}}}, // the chapter's
		{"a", numbers("0"), []itemise.Run{{0, 1, 0, api.Latin}}},
		{"!?", numbers("11"), []itemise.Run{{0, 2, 1, api.Common}}},
		// Of one script, and of one level.
		{"abc", numbers("011"), []itemise.Run{{0, 1, 0, api.Latin}, {1, 3, 1, api.Latin}}},
		{"abc", []uint8{255, 254, 255}, []itemise.Run{{0, 1, 255, api.Latin}, {1, 2, 254, api.Latin}, {2, 3, 255, api.Latin}}},
		{"\u05d0\u0628 \u0628", numbers("1111"), []itemise.Run{{0, 1, 1, api.Hebrew}, {1, 4, 1, api.Arabic}}},
		{"a(\u05d0)b", numbers("00100"), []itemise.Run{{0, 2, 0, api.Latin}, {2, 3, 1, api.Hebrew}, {3, 5, 0, api.Latin}}},
		{"a(\u05d0b", numbers("0010"), []itemise.Run{{0, 2, 0, api.Latin}, {2, 3, 1, api.Hebrew}, {3, 4, 0, api.Latin}}},
		{"! a", numbers("010"), []itemise.Run{{0, 1, 0, api.Latin}, {1, 2, 1, api.Latin}, {2, 3, 0, api.Latin}}},
		// A separator stands at a run's end alone.
		{"a\nb", numbers("000"), []itemise.Run{{0, 2, 0, api.Latin}, {2, 3, 0, api.Latin}}},
		{"a\n", numbers("00"), []itemise.Run{{0, 2, 0, api.Latin}}},
		{"a\n", numbers("01"), []itemise.Run{{0, 1, 0, api.Latin}, {1, 2, 1, api.Latin}}},
		{"\n\n!", numbers("222"), []itemise.Run{{0, 1, 2, api.Common}, {1, 2, 2, api.Common}, {2, 3, 2, api.Common}}},
		{"\r\n", numbers("00"), []itemise.Run{{0, 1, 0, api.Common}, {1, 2, 0, api.Common}}},
		{"a\u2028b\tc", numbers("00000"), []itemise.Run{{0, 5, 0, api.Latin}}},
		{"\u05d0\u2029!", numbers("111"), []itemise.Run{{0, 2, 1, api.Hebrew}, {2, 3, 1, api.Common}}},
	} {
		if got := runsOf(t, []rune(x.text), x.levels); !slices.Equal(got, x.want) {
			t.Errorf("Runs(%+q, %d) = %d, want %d", x.text, x.levels, got, x.want)
		}
	}
	for _, r := range separators {
		if got := runsOf(t, []rune{'a', r, 'b'}, numbers("000")); len(got) != 2 || got[0].To != 2 {
			t.Errorf("%X: %d", r, got)
		}
	}
}

// P14.2: every short text, with all levels of two.
func TestRunsEvery(t *testing.T) {
	everyText([]rune("a\u05d0!\u0301()\n"), 4, func(l []rune) {
		levels := make([]uint8, len(l))
		for bits := range 1 << len(l) {
			for at := range levels {
				levels[at] = uint8(bits >> at & 1)
			}
			sameRuns(t, l, levels)
		}
	})
}

// P14.2: texts of all kinds, of any levels.
func TestRunsAnywhere(t *testing.T) {
	someTexts(143, 50000, 30, func(random *rand.Rand, l []rune) {
		sameRuns(t, l, someLevels(random, len(l)))
	})
}

// P14.2: what is wrong, in the order in which it counts; nothing stands beside it.
func TestRunsWrong(t *testing.T) {
	long := slices.Repeat([]rune{'a'}, api.MaxPara)
	for _, x := range []struct {
		what   string
		l      []rune
		levels int
		want   api.Errno
	}{
		{"just as many", long, api.MaxPara, api.OK},
		{"one more", append(long, 'a'), api.MaxPara + 1, api.ErrLimit},
		{"one more, of too few levels", append(long, 'a'), api.MaxPara, api.ErrLimit},
		{"one more, of no levels", append(long, 'a'), 0, api.ErrLimit},
		{"many more", slices.Repeat([]rune{'\n'}, 1<<20), 1 << 20, api.ErrLimit},
		{"just as many, of one level less", long, api.MaxPara - 1, api.ErrArg},
		{"just as many, of one level more", long, api.MaxPara + 1, api.ErrArg},
		{"no level", long[:1], 0, api.ErrArg},
		{"two levels", long[:1], 2, api.ErrArg},
		{"a level of nothing", nil, 1, api.ErrArg},
		{"many levels of nothing", []rune{}, 1 << 20, api.ErrArg},
		{"nothing", nil, 0, api.OK},
		{"no characters of Unicode's", []rune{-1, -0x80000000, 0x110000, 0x7fffffff}, 4, api.OK},
	} {
		runs, e := itemise.Runs(x.l, make([]uint8, x.levels))
		if e != x.want {
			t.Errorf("%s: %d, want %d", x.what, e, x.want)
		}
		if some := e == api.OK && len(x.l) > 0; some != (len(runs) > 0) {
			t.Errorf("%s: %d runs, %d", x.what, len(runs), e)
		}
	}
}

// P14.1, P14.2: no characters, and no levels, told in either way.
func TestNothing(t *testing.T) {
	for _, l := range [][]rune{nil, {}} {
		if got := itemise.Scripts(l); len(got) > 0 {
			t.Error(got)
		}
		for _, levels := range [][]uint8{nil, {}} {
			if got := runsOf(t, l, levels); len(got) > 0 {
				t.Error(got)
			}
		}
	}
}

// P14.2: paragraphs as long as may be.
func TestRunsLong(t *testing.T) {
	const n = api.MaxPara
	levels := make([]uint8, n)
	for i := range levels {
		levels[i] = uint8(i)
	}
	for _, x := range []struct {
		name   string
		l      []rune
		levels []uint8
		count  int
		last   itemise.Run
	}{
		{"one run", slices.Repeat([]rune{'a'}, n), make([]uint8, n), 1, itemise.Run{To: n, Script: api.Latin}},
		{"a run each, by levels", slices.Repeat([]rune{'!'}, n), levels, n, itemise.Run{From: n - 1, To: n, Level: 255}},
		{"a run each, by separators", slices.Repeat([]rune{'\n'}, n), make([]uint8, n), n, itemise.Run{From: n - 1, To: n}},
		{"a run each, by scripts", slices.Repeat([]rune{'a', 0x3B1}, n/2), make([]uint8, n), n, itemise.Run{From: n - 1, To: n, Script: api.Greek}},
		{"marks", slices.Repeat([]rune{0x301}, n), make([]uint8, n), 1, itemise.Run{To: n}},
	} {
		got := runsOf(t, x.l, x.levels)
		if len(got) != x.count || got[len(got)-1] != x.last {
			t.Errorf("%s: %d runs, the last one %d", x.name, len(got), got[len(got)-1])
		}
	}
}
