package segment

import "calamus/ucd"

// Classes beside those of characters.
const (
	absent uint8 = ucd.BreakH3 + 1 + iota // of a unit that there is not
	inside                                // of a character at which no unit begins
)

// set is classes, a bit each.
type set uint64

// setOf tells the set of classes.
func setOf(classes ...uint8) set {
	var s set
	for _, c := range classes {
		s |= 1 << c
	}
	return s
}

// has: is a class in the set?
func (s set) has(class uint8) bool { return s>>class&1 != 0 }
