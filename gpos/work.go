package gpos

import (
	"calamus/api"
	"calamus/bin"
	"calamus/cover"
)

// mostCounted is how many Kerns, Marks, Anchors and glyphs of coverages a lookup
// may have.
const mostCounted = 65536

// work is the reading of one lookup: how many glyphs there are, and how many
// things of this one's are counted by now.
type work struct {
	r       *bin.Reader
	glyphs  int
	counted int64
}

// count counts n more. It is asked ahead of their being made, so that a small
// table takes no great memory.
func (w *work) count(n int64) {
	w.counted += n
	require(w.counted <= mostCounted)
}

// words tells n words, which have to be there.
func (w *work) words(at, n int) []uint16 {
	l := w.r.Words(at, n)
	require(!w.r.Bad())
	return l
}

// word tells the word at that place, which has to be there.
func (w *work) word(at int) uint16 {
	n := w.r.Word(at)
	require(!w.r.Bad())
	return n
}

// some tells the word at that place as a number of things, of which there has to
// be one.
func (w *work) some(at int) int {
	n := int(w.word(at))
	require(n >= 1)
	return n
}

// place tells the place that is as far from another one as the word at at tells.
func (w *work) place(from, at int) int { return from + int(w.word(at)) }

// coverage tells the glyphs of the coverage at that place.
func (w *work) coverage(at int) []uint16 {
	l, e := cover.Coverage(w.r, at, w.glyphs)
	require(e == api.OK)
	return l
}

// point tells the point at that place.
func (w *work) point(at int) api.Anchor {
	require(w.word(at) == 1)
	l := w.words(at+2, 2)
	return api.Anchor{Has: true, X: int16(l[0]), Y: int16(l[1])}
}
