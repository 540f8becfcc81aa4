package cover

import (
	"iter"

	"calamus/api"
	"calamus/bin"
)

// interval is glyphs side by side, and the word that is told of them.
type interval struct{ first, last, word int }

// fits: does it begin behind an end, and are its glyphs rising, and right?
func (x interval) fits(end, glyphs int) bool {
	return x.first > end && x.first <= x.last && x.last < glyphs
}

// countable: may a coverage have so many glyphs?
func countable(n int) bool { return n >= 1 && n <= api.MaxGlyphs }

// coverageIntervals tells those of a coverage, each with how many glyphs are
// ahead; false, if there is none.
func coverageIntervals(r *bin.Reader, at int) (iter.Seq[interval], bool) {
	n := int(r.Word(at + 2))
	switch r.Word(at) {
	case 1:
		return listed(r.Words(at+4, n)), !r.Bad()
	case 2:
		return ranged(r.Words(at+4, 3*n)), !r.Bad()
	}
	return nil, false
}

// classIntervals tells those of classes; false, if there are none.
func classIntervals(r *bin.Reader, at, glyphs int) (iter.Seq[interval], bool) {
	switch r.Word(at) {
	case 1:
		first, n := int(r.Word(at+2)), int(r.Word(at+4))
		// No interval tells where a row of no classes begins, so it is asked here.
		return classed(first, r.Words(at+6, n)), !r.Bad() && first+n <= glyphs
	case 2:
		n := int(r.Word(at + 2))
		return ranged(r.Words(at+4, 3*n)), !r.Bad()
	}
	return nil, false
}

// listed tells each glyph by itself, with how many are ahead.
func listed(glyphs []uint16) iter.Seq[interval] {
	return func(yield func(interval) bool) {
		for i, g := range glyphs {
			if !yield(interval{int(g), int(g), i}) {
				return
			}
		}
	}
}

// classed tells each glyph from first on by itself, with its class.
func classed(first int, classes []uint16) iter.Seq[interval] {
	return func(yield func(interval) bool) {
		for i, class := range classes {
			if !yield(interval{first + i, first + i, int(class)}) {
				return
			}
		}
	}
}

// ranged tells the ranges of which three words each are told.
func ranged(words []uint16) iter.Seq[interval] {
	return func(yield func(interval) bool) {
		for at := 2; at < len(words); at += 3 {
			if !yield(interval{int(words[at-2]), int(words[at-1]), int(words[at])}) {
				return
			}
		}
	}
}

// rows tells each row of glyphs of one class that is not 0.
func rows(classes []uint8) iter.Seq[interval] {
	return func(yield func(interval) bool) {
		for end := 0; end < len(classes); {
			first, class := end, classes[end]
			for end < len(classes) && classes[end] == class {
				end++
			}
			if class != 0 && !yield(interval{first, end - 1, int(class)}) {
				return
			}
		}
	}
}
