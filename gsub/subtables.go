package gsub

import "calamus/api"

// single reads a subtable of the type 1.
func (w *work) single(at int) api.Sub {
	var from, to []uint16
	switch w.word(at) {
	case 1:
		from = w.covered(at)
		to = shifted(from, w.word(at+4))
	case 2:
		from, to = w.each(at)
	default:
		giveUp()
	}
	w.count(len(from))
	return api.Sub{Pairs: paired(from, w.right(to))}
}

// shifted tells glyphs that are further by so many, modulo 65536.
func shifted(from []uint16, by uint16) []uint16 {
	to := make([]uint16, len(from))
	for i, g := range from {
		to[i] = g + by
	}
	return to
}

// paired tells each glyph with what it becomes.
func paired(from, to []uint16) []api.Pair {
	l := make([]api.Pair, len(from))
	for i, g := range from {
		l[i] = api.Pair{From: g, To: to[i]}
	}
	return l
}

// multiple reads a subtable of the type 2.
func (w *work) multiple(at int) api.Sub {
	from, rows := w.rows(at)
	l := make([]api.Many, len(from))
	for i, g := range from {
		l[i] = api.Many{From: g, To: rows[i]}
	}
	return api.Sub{Manys: l}
}

// alternate reads a subtable of the type 3, of which the first choices are told.
func (w *work) alternate(at int) api.Sub {
	from, rows := w.rows(at)
	to := make([]uint16, len(from))
	for i, row := range rows {
		to[i] = row[0]
	}
	return api.Sub{Pairs: paired(from, to)}
}

// rows tells each glyph of a subtable's coverage, and its row.
func (w *work) rows(at int) (from []uint16, rows [][]uint16) {
	require(w.word(at) == 1)
	from, places := w.each(at)
	for _, place := range places {
		row := at + int(place)
		n := w.size(row)
		w.count(n)
		rows = append(rows, w.right(w.words(row+2, n)))
	}
	return from, rows
}

// ligatures reads a subtable of the type 4.
func (w *work) ligatures(at int) api.Sub {
	require(w.word(at) == 1)
	var s api.Sub
	from, places := w.each(at)
	for i, g := range from {
		set := at + int(places[i])
		for _, place := range w.words(set+2, w.size(set)) {
			s.Ligs = append(s.Ligs, w.ligature(set+int(place), g))
		}
	}
	return s
}

// ligature reads one that begins with that glyph.
func (w *work) ligature(at int, first uint16) api.Lig {
	n := w.size(at + 2)
	w.count(n + 1)
	to, others := w.right(w.words(at, 1)), w.right(w.words(at+4, n-1))
	return api.Lig{Parts: append([]uint16{first}, others...), To: to[0]}
}

// chained reads a subtable of the type 6.
func (w *work) chained(at int) api.Sub {
	require(w.word(at) == 3)
	var s api.Sub
	end := at + 2
	s.Back, end = w.sets(at, end)
	s.In, end = w.sets(at, end)
	s.Ahead, end = w.sets(at, end)
	require(len(s.In) >= 1)
	s.Records = w.records(end, len(s.In))
	return s
}

// sets tells the glyphs of the coverages that a subtable lists at a place, and
// where that list ends.
func (w *work) sets(at, list int) (sets [][]uint16, end int) {
	places := w.list(list)
	for _, place := range places {
		sets = append(sets, w.coverage(at+int(place)))
	}
	return sets, list + 2 + 2*len(places)
}

// records tells the records at that place, for a match of so many glyphs.
func (w *work) records(at, matched int) []api.Record {
	words := w.words(at+2, 2*int(w.word(at)))
	l := make([]api.Record, len(words)/2)
	for i := range l {
		l[i] = api.Record{At: int(words[2*i]), Lookup: int(words[2*i+1])}
		require(l[i].At < matched && l[i].Lookup < w.lookups)
	}
	return l
}
