package embed

import "calamus/api"

// text is classes and their levels, of which the sequences are told.
type text struct {
	classes []api.Class
	levels  []uint8
	base    uint8
	pairs   []int
	places  []int
}

// textOf tells a text of as many levels as classes.
func textOf(l []api.Class, levels []uint8, base uint8) *text {
	t := &text{classes: l, levels: levels, base: base, pairs: Match(l)}
	for at, c := range l {
		if !removed(c) {
			t.places = append(t.places, at)
		}
	}
	return t
}

// sequences tells the sequences, in the order of their first places. What leads
// to a run stands ahead of it, so that one pass is enough.
func (t *text) sequences() []Seq {
	var all []Seq
	led := map[int]int{} // of a PDI, the sequence that goes on with a run from there
	for from, to := 0, 0; from < len(t.places); from = to {
		to = t.runEnd(from)
		first, last := t.places[from], t.places[to-1]
		of, ok := led[first]
		if !ok {
			of = len(all)
			all = append(all, Seq{Level: t.levels[first], Sos: direction(t.level(from), t.level(from-1))})
		}
		all[of].Places = append(all[of].Places, t.places[from:to]...)
		all[of].Eos = t.eos(to)
		if pdi := t.pairs[last]; pdi > last {
			led[pdi] = of
		}
	}
	return all
}

// runEnd tells behind how many of the places the run ends that begins behind from.
func (t *text) runEnd(from int) int {
	to := from + 1
	for to < len(t.places) && t.level(to) == t.level(from) {
		to++
	}
	return to
}

// level tells the level of one of the places; the paragraph's, if it is none.
func (t *text) level(i int) uint8 {
	if i < 0 || i >= len(t.places) {
		return t.base
	}
	return t.levels[t.places[i]]
}

// eos tells the eos of a sequence whose last run ends behind so many places. What
// an initiator without a PDI begins ends with the paragraph.
func (t *text) eos(to int) api.Class {
	last := t.places[to-1]
	behind := t.level(to)
	if initiates(t.classes[last]) && t.pairs[last] < 0 {
		behind = t.base
	}
	return direction(t.levels[last], behind)
}
