package sfnt

import "calamus/bin"

// What the table head is known by, and what it may tell.
const (
	headMagic  = 1594834165
	leastUnits = 16
	mostUnits  = 16384
)

// unitsOf tells the units of the em of a table head.
func unitsOf(r *bin.Reader) uint16 {
	requireSize(r, 54)
	requireFont(r.Long(0) == version && r.Long(12) == headMagic)
	units, offsets := r.Word(18), r.Int(50)
	requireFont(units >= leastUnits && units <= mostUnits)
	requireFont(offsets == 0 || offsets == 1)
	return units
}

// The two kinds of maxp, of which the first one has nothing but the number.
const (
	shortVersion = 20480
	shortSize    = 6
	longSize     = 32
)

// glyphsOf tells the number of glyphs of a maxp.
func glyphsOf(r *bin.Reader) int {
	requireSound(r)
	if r.Len() != shortSize {
		requireSize(r, longSize)
		requireFont(r.Long(0) == version)
	} else {
		requireFont(r.Long(0) == shortVersion)
	}
	glyphs := int(r.Word(4))
	requireFont(glyphs >= 1)
	return glyphs
}

// measuredOf tells of an hhea how many glyphs have an advance of their own.
func measuredOf(r *bin.Reader, glyphs int) int {
	requireSize(r, 36)
	measured := int(r.Word(34))
	requireFont(r.Long(0) == version && measured >= 1 && measured <= glyphs)
	return measured
}

// advancesOf tells the advances of an hmtx.
func advancesOf(r *bin.Reader, glyphs, measured int) []uint16 {
	requireSize(r, 4*measured+2*(glyphs-measured))
	l := make([]uint16, glyphs)
	for i := range l {
		l[i] = r.Word(4 * min(i, measured-1))
	}
	return l
}
