package gpos

import (
	"calamus/api"
	"calamus/bin"
	"calamus/cover"
)

// parsed tells the lookups and the features of a table.
func parsed(r *bin.Reader, glyphs int) ([]api.Lookup, []api.Feature) {
	require(!r.Bad() && r.Word(0) == 1 && r.Word(2) == 0)
	listed, e := cover.Lookups(r, int(r.Word(8)))
	require(e == api.OK)
	features, e := cover.Features(r, int(r.Word(6)), len(listed))
	require(e == api.OK)
	var lookups []api.Lookup
	for _, s := range listed {
		w := work{r: r, glyphs: glyphs}
		lookups = append(lookups, w.lookup(s))
	}
	return lookups, features
}

// lookup tells a lookup with its subtables.
func (w *work) lookup(s cover.Subtable) api.Lookup {
	l := api.Lookup{Type: s.Type, Flag: s.Flag}
	for _, at := range s.At {
		x := w.opened(s.Type, at)
		w.count(x.size())
		l.Poss = append(l.Poss, told(x))
	}
	return l
}
