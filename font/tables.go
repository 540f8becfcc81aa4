package font

import (
	"calamus/api"
	"calamus/bin"
	"calamus/cover"
	"calamus/gpos"
	"calamus/gsub"
	"calamus/sfnt"
)

// tables is the bytes of a font's tables, by their names.
type tables map[api.Tag][]byte

// tablesOf tells the tables of a font.
func tablesOf(b []byte) tables {
	listed, e := sfnt.Tables(b)
	require(e == api.OK)
	l := make(tables, len(listed))
	for _, t := range listed {
		l[t.Tag] = b[t.At : t.At+t.Len]
	}
	return l
}

// optional tells a reader of the table of a name of four letters; false, if
// there is none. Each table has a reader of its own, so that none can make
// another one's bad.
func (l tables) optional(name string) (*bin.Reader, bool) {
	body, ok := l[api.Tag([]byte(name))]
	if !ok {
		return nil, false
	}
	return bin.Open(body), true
}

// needed tells a reader of the table of that name, which has to be there.
func (l tables) needed(name string) *bin.Reader {
	r, ok := l.optional(name)
	require(ok)
	return r
}

// font tells the font of all these tables.
func (l tables) font() api.Font {
	var f api.Font
	f.Units = l.units()
	f.Advances, f.Ascent, f.Descent = l.widths()
	glyphs := len(f.Advances)
	f.Maps = l.maps(glyphs)
	f.Classes = l.classes(glyphs)
	f.Subs, f.SubFeats = l.lookups("GSUB", gsub.Parse, glyphs)
	f.Poss, f.PosFeats = l.lookups("GPOS", gpos.Parse, glyphs)
	return f
}

// units tells the units of the em.
func (l tables) units() uint16 {
	units, e := sfnt.Head(l.needed("head"))
	require(e == api.OK)
	return units
}

// widths tells of each glyph its advance, and the ascent and the descent.
func (l tables) widths() (advances []uint16, ascent, descent int16) {
	advances, ascent, descent, e := sfnt.Widths(l.needed("maxp"), l.needed("hhea"), l.needed("hmtx"))
	require(e == api.OK)
	return advances, ascent, descent
}

// maps tells the characters' glyphs.
func (l tables) maps(glyphs int) []api.Map {
	maps, e := sfnt.Maps(l.needed("cmap"), glyphs)
	require(e == api.OK)
	return maps
}

// parser reads a table of lookups, of so many glyphs.
type parser func(r *bin.Reader, glyphs int) ([]api.Lookup, []api.Feature, api.Errno)

// lookups tells the lookups and the features of the table of that name, which
// may be there.
func (l tables) lookups(name string, parse parser, glyphs int) ([]api.Lookup, []api.Feature) {
	r, ok := l.optional(name)
	if !ok {
		return nil, nil
	}
	lookups, features, e := parse(r, glyphs)
	require(e == api.OK)
	return lookups, features
}

// leastGDEF is how many bytes a GDEF has at least.
const leastGDEF = 12

// classes tells of each glyph its class, 0 where none is told.
func (l tables) classes(glyphs int) []uint8 {
	r, ok := l.optional("GDEF")
	if !ok {
		return make([]uint8, glyphs)
	}
	require(r.Len() >= leastGDEF && r.Word(0) == 1)
	minor, at := r.Word(2), int(r.Word(4))
	require(minor == 0 || minor == 2 || minor == 3)
	if at == 0 {
		return make([]uint8, glyphs)
	}
	classes, e := cover.Classes(r, at, glyphs)
	require(e == api.OK)
	return classes
}
