package bidi_test

import (
	"runtime"
	"slices"
	"sync"
	"testing"
	"time"

	"calamus/bidi"
)

// manySequences tells a text of many sequences, short ones and one that goes
// through all of it.
func manySequences() []rune {
	return times(300, "R ( RLI EN ( L ) NSM PDI ON ) LRE EN ON L R PDF RLO L PDF FSI AL EN CS EN PDI EN")
}

// P12.1: levels hang on the text and the base alone, however often they are
// asked for, and by however many at once.
func TestLevelsAtOnce(t *testing.T) {
	l := manySequences()
	want, _ := levelsByWords(l, 2)
	var wait sync.WaitGroup
	for range 8 {
		wait.Add(1)
		go func() {
			defer wait.Done()
			for range 30 {
				if levels, _, _ := bidi.Levels(l, 2); !slices.Equal(levels, want) {
					t.Error("other levels")
				}
			}
		}()
	}
	wait.Wait()
}

// P12.1: levels are whole when they are answered, and stay: what is written into
// them is not written over.
func TestLevelsStay(t *testing.T) {
	l := manySequences()
	for range 200 {
		levels, _ := levelsOf(t, l, 2)
		for i := range levels {
			levels[i] = 199
		}
		runtime.Gosched()
		if slices.ContainsFunc(levels, func(level uint8) bool { return level != 199 }) {
			t.Fatal("an answer changes behind the call")
		}
	}
}

// P12.1: no goroutine is left behind.
func TestNoneLeft(t *testing.T) {
	before := runtime.NumGoroutine()
	l := manySequences()
	for i := range 300 {
		levelsOf(t, l[:i], uint8(i%3))
		bidi.Levels(l, 3)
	}
	for range 200 {
		if runtime.NumGoroutine() <= before {
			return
		}
		time.Sleep(10 * time.Millisecond)
	}
	t.Errorf("%d goroutines, were %d", runtime.NumGoroutine(), before)
}
