package itemise_test

import (
	"math/rand"
	"slices"
	"testing"

	"calamus/api"
	"calamus/itemise"
)

// P14.3: what is handed in is only read, what lies behind it included, and not
// kept; what is answered is new memory.
func TestMemory(t *testing.T) {
	someTexts(147, 5000, 30, func(random *rand.Rand, l []rune) {
		under := append(slices.Clone(l), []rune("a\u05d0()\n\u0301")...)
		before := slices.Clone(under)
		levelsUnder := someLevels(random, len(under))
		levelsBefore := slices.Clone(levelsUnder)
		handed, levels := under[:len(l)], levelsUnder[:len(l)]
		wantScripts, wantRuns := scriptsByWords(slices.Clone(l)), runsByWords(slices.Clone(l), slices.Clone(levels))
		scripts, otherScripts := itemise.Scripts(handed), itemise.Scripts(handed)
		runs, otherRuns := runsOf(t, handed, levels), runsOf(t, handed, levels)
		if !slices.Equal(scripts, wantScripts) || !slices.Equal(runs, wantRuns) {
			t.Fatalf("%X, %d: %d, %d", l, levels, scripts, runs)
		}
		spoil(scripts, 199)
		spoil(runs, itemise.Run{From: -1, To: -1, Level: 199, Script: 199})
		if !slices.Equal(under, before) || !slices.Equal(levelsUnder, levelsBefore) {
			t.Fatalf("what is handed in is changed: %X, %d, was %X, %d", under, levelsUnder, before, levelsBefore)
		}
		if !slices.Equal(itemise.Scripts(handed), wantScripts) || !slices.Equal(runsOf(t, handed, levels), wantRuns) {
			t.Fatalf("%X, %d: an answer hangs on another one", l, levels)
		}
		spoil(under, '\n')
		spoil(levelsUnder, 199)
		if !slices.Equal(otherScripts, wantScripts) || !slices.Equal(otherRuns, wantRuns) {
			t.Fatalf("%X: what is answered is no new memory, or what is handed in is kept", l)
		}
	})
}

// spoil writes over a list, what lies behind its length included.
func spoil[T any](l []T, with T) {
	l = l[:cap(l)]
	for i := range l {
		l[i] = with
	}
}

// P14.3: what is wrong is only read, too.
func TestWrongMemory(t *testing.T) {
	for _, x := range []struct {
		characters, levels int
		want               api.Errno
	}{{3, 4, api.ErrArg}, {4, 3, api.ErrArg}, {api.MaxPara + 1, 5, api.ErrLimit}} {
		l, levels := slices.Repeat([]rune("(a\u05d0)"), x.characters), slices.Repeat(numbers("12"), x.levels)
		before, levelsBefore := slices.Clone(l), slices.Clone(levels)
		if _, e := itemise.Runs(l[:x.characters], levels[:x.levels]); e != x.want || !slices.Equal(l, before) || !slices.Equal(levels, levelsBefore) {
			t.Errorf("%d characters, %d levels: %d", x.characters, x.levels, e)
		}
	}
}
