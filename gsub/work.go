package gsub

import (
	"calamus/api"
	"calamus/bin"
	"calamus/cover"
)

// mostCounted is how many glyphs and ligatures of a lookup may be counted.
const mostCounted = 65536

// work is the reading of one lookup: how many glyphs and lookups there are, and
// how many of this one's are counted by now.
type work struct {
	r       *bin.Reader
	glyphs  int
	lookups int
	counted int
}

// count counts n more. What is great is counted ahead of being read, so that a
// small table takes no great memory.
func (w *work) count(n int) {
	w.counted += n
	require(w.counted <= mostCounted)
}

// words tells n words, which have to be there.
func (w *work) words(at, n int) []uint16 {
	l := w.r.Words(at, n)
	require(!w.r.Bad())
	return l
}

// word tells the word at that place, which has to be there.
func (w *work) word(at int) uint16 {
	n := w.r.Word(at)
	require(!w.r.Bad())
	return n
}

// size tells the word at that place as a number of things, of which there has to
// be one.
func (w *work) size(at int) int {
	n := int(w.word(at))
	require(n >= 1)
	return n
}

// list tells the words behind the one at that place, which says how many there are.
func (w *work) list(at int) []uint16 { return w.words(at+2, int(w.word(at))) }

// right tells glyphs that have to be right.
func (w *work) right(l []uint16) []uint16 {
	for _, g := range l {
		require(int(g) < w.glyphs)
	}
	return l
}

// coverage tells the glyphs of the coverage at that place.
func (w *work) coverage(at int) []uint16 {
	l, e := cover.Coverage(w.r, at, w.glyphs)
	require(e == api.OK)
	w.count(len(l))
	return l
}

// covered tells the glyphs of the coverage that a subtable names first.
func (w *work) covered(at int) []uint16 { return w.coverage(at + int(w.word(at+2))) }

// each tells the glyphs of a subtable's coverage, and the word that stands for
// each of them behind it.
func (w *work) each(at int) (from, told []uint16) {
	from, told = w.covered(at), w.list(at+4)
	require(len(from) == len(told))
	return from, told
}
