package embed

import (
	"slices"

	"calamus/api"
)

// walk is the going through classes from the left, and what is told of them.
type walk struct {
	stack
	first   []api.Class
	pairs   []int
	base    uint8
	levels  []uint8
	classes []api.Class
}

// doing is what is done at a place.
type doing func(w *walk, at int)

// doings tells what each class does, by the classes' numbers.
func doings() [api.PDI + 1]doing {
	return [api.PDI + 1]doing{
		api.L:   (*walk).stand,
		api.R:   (*walk).stand,
		api.AL:  (*walk).stand,
		api.EN:  (*walk).stand,
		api.ES:  (*walk).stand,
		api.ET:  (*walk).stand,
		api.AN:  (*walk).stand,
		api.CS:  (*walk).stand,
		api.NSM: (*walk).stand,
		api.BN:  (*walk).remove,
		api.B:   (*walk).beginAgain,
		api.S:   (*walk).stand,
		api.WS:  (*walk).stand,
		api.ON:  (*walk).stand,
		api.LRE: (*walk).embedLeft,
		api.RLE: (*walk).embedRight,
		api.LRO: (*walk).overrideLeft,
		api.RLO: (*walk).overrideRight,
		api.PDF: (*walk).leaveEmbedding,
		api.LRI: (*walk).isolateLeft,
		api.RLI: (*walk).isolateRight,
		api.FSI: (*walk).isolateByText,
		api.PDI: (*walk).leaveIsolate,
	}
}

// walked tells levels and classes, of a paragraph of that level.
func walked(l []api.Class, base uint8) ([]uint8, []api.Class) {
	w := &walk{
		stack:   stackOf(base),
		first:   l,
		pairs:   Match(l),
		base:    base,
		levels:  make([]uint8, len(l)),
		classes: slices.Clone(l),
	}
	does := doings()
	for at, c := range l {
		does[c](w, at)
	}
	return w.levels, w.classes
}

// stand lets what is at a place be in the last entry.
func (w *walk) stand(at int) {
	w.levels[at] = w.last.level
	if w.last.override != none {
		w.classes[at] = w.last.override
	}
}

// remove lets what is at a place be with what stands ahead of it.
func (w *walk) remove(at int) {
	w.classes[at], w.levels[at] = api.BN, w.base
	if at > 0 {
		w.levels[at] = w.levels[at-1]
	}
}

// beginAgain lets a B be the paragraph's; nothing reaches over it.
func (w *walk) beginAgain(at int) {
	w.levels[at] = w.base
	w.stack = stackOf(w.base)
}

func (w *walk) embedLeft(at int)     { w.embed(at, api.L, none) }
func (w *walk) embedRight(at int)    { w.embed(at, api.R, none) }
func (w *walk) overrideLeft(at int)  { w.embed(at, api.L, api.L) }
func (w *walk) overrideRight(at int) { w.embed(at, api.R, api.R) }

// embed begins an embedding.
func (w *walk) embed(at int, side, override api.Class) {
	w.remove(at)
	w.beginEmbedding(side, override)
}

// leaveEmbedding ends an embedding.
func (w *walk) leaveEmbedding(at int) {
	w.remove(at)
	w.endEmbedding()
}

func (w *walk) isolateLeft(at int)  { w.isolate(at, api.L) }
func (w *walk) isolateRight(at int) { w.isolate(at, api.R) }

// isolateByText begins an isolate of the side that its own text has.
func (w *walk) isolateByText(at int) {
	end := w.pairs[at]
	if end < 0 {
		end = len(w.first)
	}
	side := api.L
	if rightward(strong(w.first, w.pairs, at+1, end)) {
		side = api.R
	}
	w.isolate(at, side)
}

// isolate begins an isolate, behind the initiator.
func (w *walk) isolate(at int, side api.Class) {
	w.stand(at)
	w.beginIsolate(side)
}

// leaveIsolate ends an isolate, ahead of the PDI.
func (w *walk) leaveIsolate(at int) {
	w.endIsolate()
	w.stand(at)
}
