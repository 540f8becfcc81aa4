package sfnt

import (
	"iter"

	"calamus/api"
	"calamus/bin"
)

// group is characters side by side, and which glyph each of them has.
type group struct {
	first, last rune
	glyph       func(c rune) uint16
}

// mapped tells the characters of groups that have a glyph, with their glyphs.
func mapped(groups iter.Seq[group], glyphs int) []api.Map {
	var l []api.Map
	end := rune(-1)
	for g := range groups {
		requireFont(g.first > end && g.first <= g.last)
		end = g.last
		for c := g.first; c <= g.last; c++ {
			glyph := g.glyph(c)
			if glyph == 0 || surrogate(c) {
				continue
			}
			requireFont(int(glyph) < glyphs)
			l = append(l, api.Map{Rune: c, Glyph: glyph})
		}
	}
	return l
}

// surrogate: is it one of the numbers that stand for no character?
func surrogate(c rune) bool { return c >= 0xD800 && c <= 0xDFFF }

// The platform of the subtables that may count, and their encodings.
const (
	platform      = 3
	wholeEncoding = 10
	planeEncoding = 1
)

// counting tells the groups of a cmap's subtable that counts.
func counting(r *bin.Reader) iter.Seq[group] {
	records := recordsOf(r)
	if at, ok := subtable(r, records, wholeEncoding, 12); ok {
		return rowGroups(partOf(r, at, int(r.Long(at+4))))
	}
	at, ok := subtable(r, records, planeEncoding, 4)
	requireFont(ok)
	return segmentGroups(partOf(r, at, int(r.Word(at+2))))
}

// recordsOf tells the records of a cmap.
func recordsOf(r *bin.Reader) *bin.Reader {
	records := partOf(r, 4, 8*int(r.Word(2)))
	requireFont(r.Word(0) == 0)
	for at := 8; at < records.Len(); at += 8 {
		requireFont(records.Long(at-8) < records.Long(at))
	}
	return records
}

// partOf tells a part of a reader that has to have it.
func partOf(r *bin.Reader, at, n int) *bin.Reader {
	part := r.Part(at, n)
	requireSound(r)
	return part
}

// subtable tells where the subtable of that encoding begins, if there is one
// and it is of that format. Where no bytes are, there is none: a record of one
// that does not count may point anywhere.
func subtable(r, records *bin.Reader, encoding, format uint16) (int, bool) {
	for at := 0; at < records.Len(); at += 8 {
		if records.Word(at) == platform && records.Word(at+2) == encoding {
			begin := int(records.Long(at + 4))
			return begin, begin <= r.Len()-2 && r.Word(begin) == format
		}
	}
	return 0, false
}
