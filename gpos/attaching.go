package gpos

import "calamus/api"

// attaching is a subtable of the types 4 and 6: the glyphs that are put, those
// that they stand on, how many classes there are, and where either's list begins.
type attaching struct {
	*work
	put, under     []uint16
	classes        int
	putAt, underAt int
}

// attaching opens the subtable at that place.
func (w *work) attaching(at int) attaching {
	a := attaching{
		work:    w,
		put:     w.coverage(w.place(at, at+2)),
		under:   w.coverage(w.place(at, at+4)),
		classes: w.some(at + 6),
		putAt:   w.place(at, at+8),
		underAt: w.place(at, at+10),
	}
	require(int(w.word(a.putAt)) == len(a.put) && int(w.word(a.underAt)) == len(a.under))
	return a
}

// size counts the glyphs of both coverages, the marks, and the bases' points,
// also those that are not there.
func (a attaching) size() int64 {
	marks, bases := int64(len(a.put)), int64(len(a.under))
	return marks + bases + marks + bases*int64(a.classes)
}

// marks tells of each glyph that is put its class and point.
func (a attaching) marks() []api.Mark {
	words := a.words(a.putAt+2, 2*len(a.put))
	l := make([]api.Mark, len(a.put))
	for i, g := range a.put {
		class := words[2*i]
		require(int(class) < a.classes)
		p := a.point(a.putAt + int(words[2*i+1]))
		l[i] = api.Mark{Glyph: g, Class: class, X: p.X, Y: p.Y}
	}
	return l
}

// bases tells of each glyph that may stand below its points.
func (a attaching) bases() []api.Base {
	l := make([]api.Base, len(a.under))
	for i, g := range a.under {
		l[i] = api.Base{Glyph: g, Anchors: a.anchors(a.underAt + 2 + 2*a.classes*i)}
	}
	return l
}

// anchors tells a point for each class, of the row of places there.
func (a attaching) anchors(row int) []api.Anchor {
	l := make([]api.Anchor, a.classes)
	for i, place := range a.words(row, a.classes) {
		if place != 0 {
			l[i] = a.point(a.underAt + int(place))
		}
	}
	return l
}
