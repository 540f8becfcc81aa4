package bidi

import (
	"sync"

	"calamus/api"
	"calamus/embed"
	"calamus/resolve"
)

// workers is how many goroutines resolve sequences, at most.
const workers = 4

// text is characters, the classes that controls leave of theirs, and their
// levels by now.
type text struct {
	characters []rune
	classes    []api.Class
	levels     []uint8
}

// resolveAll resolves sequences, at once. No two have a place in common, so that
// no two goroutines come to one level.
func (t text) resolveAll(seqs []embed.Seq) {
	waiting := make(chan embed.Seq)
	var working sync.WaitGroup
	for range min(workers, len(seqs)) {
		working.Add(1)
		go func() {
			defer working.Done()
			for s := range waiting {
				t.resolve(s)
			}
		}()
	}
	for _, s := range seqs {
		waiting <- s
	}
	close(waiting)
	working.Wait()
}

// resolve sets the levels of a sequence's places.
func (t text) resolve(s embed.Seq) {
	first := picked(t.classes, s.Places)
	now := resolve.Weak(first, s.Sos)
	// A sequence is no longer than its text: there is no error to be told.
	now, _ = resolve.Pairs(picked(t.characters, s.Places), first, now, s.Level, s.Sos)
	now = resolve.Neutral(now, s.Level, s.Sos, s.Eos)
	for i, level := range resolve.Levels(now, s.Level) {
		t.levels[s.Places[i]] = level
	}
}

// follow gives what is removed the level of what stands ahead of it.
func (t text) follow(paragraph uint8) {
	ahead := paragraph
	for at, c := range t.classes {
		if c == api.BN {
			t.levels[at] = ahead
		}
		ahead = t.levels[at]
	}
}

// picked tells what stands at places of a row.
func picked[T any](row []T, places []int) []T {
	l := make([]T, len(places))
	for i, at := range places {
		l[i] = row[at]
	}
	return l
}
