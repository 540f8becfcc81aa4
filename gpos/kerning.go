package gpos

import "calamus/api"

// What a pair's two glyphs have of their own in a subtable: the first one its
// advance, the second one nothing.
const (
	firstHas  = 4
	secondHas = 0
)

// kerning is a subtable of the type 2: the glyphs that come first, and of each
// where its row begins.
type kerning struct {
	*work
	firsts []uint16
	rows   []int
}

// kerning opens the subtable at that place.
func (w *work) kerning(at int) kerning {
	require(w.word(at+4) == firstHas && w.word(at+6) == secondHas)
	k := kerning{work: w, firsts: w.coverage(w.place(at, at+2))}
	require(int(w.word(at+8)) == len(k.firsts))
	for i := range k.firsts {
		k.rows = append(k.rows, w.place(at, at+10+2*i))
	}
	return k
}

// size counts the glyphs of the coverage, and those of the rows.
func (k kerning) size() int64 {
	n := int64(len(k.firsts))
	for _, row := range k.rows {
		n += int64(k.some(row))
	}
	return n
}

// kerns tells the pairs, row by row.
func (k kerning) kerns() []api.Kern {
	var l []api.Kern
	for i, first := range k.firsts {
		l = k.row(l, first, k.rows[i])
	}
	return l
}

// row tells l, and behind it the pairs of the row at that place, whose first
// glyph is first.
func (k kerning) row(l []api.Kern, first uint16, at int) []api.Kern {
	words := k.words(at+2, 2*k.some(at))
	end := -1
	for i := 0; i < len(words); i += 2 {
		second := int(words[i])
		require(second > end && second < k.glyphs)
		end = second
		l = append(l, api.Kern{A: first, B: words[i], X: int16(words[i+1])})
	}
	return l
}
