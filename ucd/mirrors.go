package ucd

// bracketEnd is where the brackets among the mirrors end.
const bracketEnd = 46

// mirrors holds characters two by two, each of which is the other one's
// mirror: ahead the brackets, of which the closing one stands behind the
// opening one.
var mirrors = [...]rune{
	0x0028, 0x0029, 0x005B, 0x005D, 0x007B, 0x007D, 0x2045, 0x2046,
	0x207D, 0x207E, 0x208D, 0x208E, 0x2308, 0x2309, 0x230A, 0x230B,
	0x2329, 0x232A, 0x27E6, 0x27E7, 0x27E8, 0x27E9, 0x27EA, 0x27EB,
	0x27EC, 0x27ED, 0x27EE, 0x27EF, 0x3008, 0x3009, 0x300A, 0x300B,
	0x300C, 0x300D, 0x300E, 0x300F, 0x3010, 0x3011, 0x3014, 0x3015,
	0x3016, 0x3017, 0x3018, 0x3019, 0x301A, 0x301B,

	0x003C, 0x003E, 0x00AB, 0x00BB, 0x2039, 0x203A, 0x2208, 0x220B,
	0x2264, 0x2265, 0x226A, 0x226B, 0x2282, 0x2283,
}

// mirrorRows tells of each mirror one more than its place among the mirrors.
func mirrorRows() []row {
	var rows []row
	for place, r := range mirrors {
		rows = append(rows, row{uint8(place + 1), []span{{r, r}}})
	}
	return rows
}

// mirrorPlace tells a character's place among the mirrors, below 0 if it is
// none.
func mirrorPlace(r rune) int {
	mirrorOnce.Do(func() { mirrorTable = laid(0, mirrorRows()) })
	return int(mirrorTable.at(r)) - 1
}

// canonical tells the closing bracket that counts as a closing one.
func canonical(closing rune) rune {
	if closing == 0x232A {
		return 0x3009
	}
	return closing
}
