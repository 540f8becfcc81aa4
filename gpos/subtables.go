package gpos

import "calamus/api"

// subtable is one of which the beginning is read: of the kind kerning, or
// attaching.
type subtable interface {
	// size tells how many of its things are counted, glyphs of coverages among them.
	size() int64
}

// opened tells the subtable of a type at that place.
func (w *work) opened(kind uint16, at int) (s subtable) {
	require(w.word(at) == 1)
	switch kind {
	case 2:
		s = w.kerning(at)
	case 4, 6:
		s = w.attaching(at)
	default:
		giveUp()
	}
	return s
}

// told tells all of a subtable.
func told(s subtable) (p api.Pos) {
	switch x := s.(type) {
	case kerning:
		p.Kerns = x.kerns()
	case attaching:
		p.Marks, p.Bases = x.marks(), x.bases()
	}
	return p
}
