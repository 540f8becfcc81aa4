package sfnt

import (
	"iter"
	"math"
	"unicode/utf8"

	"calamus/bin"
)

const mostGroups = 65536

// rowGroups tells the groups of a subtable of the format 12, which are rows of
// glyphs that rise by one.
func rowGroups(r *bin.Reader) iter.Seq[group] {
	n := int64(r.Long(12))
	requireFont(r.Word(2) == 0 && n <= mostGroups && int64(r.Len()) == 16+12*n)
	return func(yield func(group) bool) {
		for at := 16; at < r.Len(); at += 12 {
			if !yield(rowGroup(r.Long(at), r.Long(at+4), r.Long(at+8))) {
				return
			}
		}
	}
}

// rowGroup tells the group of characters whose glyphs go on from that one.
func rowGroup(first, last, glyph uint32) group {
	requireFont(first <= last && last <= utf8.MaxRune)
	requireFont(glyph <= math.MaxUint16 && glyph+(last-first) <= math.MaxUint16)
	return group{rune(first), rune(last), func(c rune) uint16 { return uint16(glyph + uint32(c) - first) }}
}

// segmentGroups tells the groups of a subtable of the format 4, of which ends,
// starts, deltas and offsets stand in a row each.
func segmentGroups(r *bin.Reader) iter.Seq[group] {
	row := int(r.Word(6)) // the bytes of a row
	requireFont(row >= 2 && row%2 == 0 && r.Len() >= 16+4*row)
	requireFont(r.Word(12+row) == math.MaxUint16 && r.Word(14+row) == 0)
	return func(yield func(group) bool) {
		for at := 14; at < 14+row; at += 2 {
			if !yield(segmentGroup(r, at, row)) {
				return
			}
		}
	}
}

// segmentGroup tells the group whose end stands at that place.
func segmentGroup(r *bin.Reader, at, row int) group {
	start := at + 2 + row // there are two bytes behind the row of ends
	delta, place := start+row, start+2*row
	g := group{first: rune(r.Word(start)), last: rune(r.Word(at))}
	add, offset := r.Word(delta), int(r.Word(place))
	g.glyph = func(c rune) uint16 {
		if offset == 0 {
			return uint16(c) + add
		}
		glyph := r.Word(place + offset + 2*int(c-g.first))
		requireSound(r)
		if glyph == 0 {
			return 0
		}
		return glyph + add
	}
	return g
}
