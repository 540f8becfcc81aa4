package itemise_test

import (
	"math/rand"
	"slices"
	"testing"

	"calamus/api"
	"calamus/itemise"
	"calamus/ucd"
)

// P14.4: runs lie side by side, from 0 to the end; two that do differ in level or
// script, or a separator stands between. A run's characters are of its level and
// of its script.
func TestRunsSideBySide(t *testing.T) {
	someTexts(144, 30000, 40, func(random *rand.Rand, l []rune) {
		levels := someLevels(random, len(l))
		scripts, end := itemise.Scripts(l), 0
		var last itemise.Run
		for _, run := range runsOf(t, l, levels) {
			if run.From != end || run.To <= run.From || run.To > len(l) {
				t.Fatalf("%X, %d: %d behind %d", l, levels, run, last)
			}
			if end > 0 && run.Level == last.Level && run.Script == last.Script && ucd.Class(l[end-1]) != api.B {
				t.Fatalf("%X, %d: nothing is between %d and %d", l, levels, last, run)
			}
			for at := run.From; at < run.To; at++ {
				if levels[at] != run.Level || scripts[at] != run.Script || at < run.To-1 && ucd.Class(l[at]) == api.B {
					t.Fatalf("%X, %d, %d: at %d in %d", l, levels, scripts, at, run)
				}
			}
			last, end = run, run.To
		}
		if end != len(l) {
			t.Fatalf("%X: the end is at %d", l, end)
		}
	})
}

// P14.4: behind a separator scripts and runs are as if what stands there stood
// alone; so they are ahead of it and with it.
func TestApartAtSeparators(t *testing.T) {
	parted := 0
	someTexts(145, 30000, 30, func(random *rand.Rand, l []rune) {
		for range random.Intn(3) {
			l = slices.Insert(l, random.Intn(len(l)+1), []rune(separators)[random.Intn(7)])
		}
		levels := someLevels(random, len(l))
		scripts, runs := itemise.Scripts(l), runsOf(t, l, levels)
		for at, r := range l {
			if ucd.Class(r) != api.B {
				continue
			}
			at++
			parted++
			if alone := itemise.Scripts(l[at:]); !slices.Equal(scripts[at:], alone) || !slices.Equal(scripts[:at], itemise.Scripts(l[:at])) {
				t.Fatalf("%X, at %d: %d, alone %d", l, at, scripts, alone)
			}
			want := slices.Concat(runsOf(t, l[:at], levels[:at]), moved(runsOf(t, l[at:], levels[at:]), at))
			if !slices.Equal(runs, want) {
				t.Fatalf("%X, at %d: %d, alone %d", l, at, runs, want)
			}
		}
	})
	if parted < 10000 {
		t.Errorf("only %d separators", parted)
	}
}

// P14.4: a mark has the script of what it stands on; no character's script is
// Inherited.
func TestMarks(t *testing.T) {
	marks := 0
	someTexts(146, 30000, 30, func(random *rand.Rand, l []rune) {
		for range random.Intn(6) {
			l = slices.Insert(l, random.Intn(len(l)+1), kinds[6][random.Intn(len(kinds[6]))])
		}
		scripts := itemise.Scripts(l)
		for at, r := range l {
			if scripts[at] == api.Inherited {
				t.Fatalf("%X: %d", l, scripts)
			}
			if at == 0 || ucd.Script(r) != api.Inherited || ucd.Class(l[at-1]) == api.B {
				continue
			}
			marks++
			if scripts[at] != scripts[at-1] {
				t.Fatalf("%X, at %d: %d", l, at, scripts)
			}
		}
	})
	if marks < 10000 {
		t.Errorf("only %d marks", marks)
	}
}
