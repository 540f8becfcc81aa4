package gsub

import (
	"calamus/api"
	"calamus/bin"
	"calamus/cover"
)

// parsed tells the lookups and the features of a table.
func parsed(r *bin.Reader, glyphs int) ([]api.Lookup, []api.Feature) {
	require(!r.Bad() && r.Word(0) == 1 && r.Word(2) == 0)
	told, e := cover.Lookups(r, int(r.Word(8)))
	require(e == api.OK)
	features, e := cover.Features(r, int(r.Word(6)), len(told))
	require(e == api.OK)
	var lookups []api.Lookup
	for _, s := range told {
		w := work{r: r, glyphs: glyphs, lookups: len(told)}
		lookups = append(lookups, w.lookup(s))
	}
	return lookups, features
}

// lookup tells a lookup with its subtables.
func (w *work) lookup(s cover.Subtable) api.Lookup {
	read := w.reading(s.Type)
	l := api.Lookup{Type: s.Type, Flag: s.Flag}
	for _, at := range s.At {
		l.Subs = append(l.Subs, read(at))
	}
	return l
}

// reading tells how a subtable of that type is read, from its place.
func (w *work) reading(kind uint16) (read func(at int) api.Sub) {
	switch kind {
	case 1:
		read = w.single
	case 2:
		read = w.multiple
	case 3:
		read = w.alternate
	case 4:
		read = w.ligatures
	case 6:
		read = w.chained
	default:
		giveUp()
	}
	return read
}
