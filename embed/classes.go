package embed

import "calamus/api"

// none is the class of what has none: of an override that is none, of a text
// without a strong class.
const none api.Class = 0

// unknown: is it none of the classes?
func unknown(c api.Class) bool { return c < api.L || c > api.PDI }

// initiates: is it an initiator?
func initiates(c api.Class) bool { return c == api.LRI || c == api.RLI || c == api.FSI }

// rightward: does it ask for a level from right to left?
func rightward(c api.Class) bool { return c == api.R || c == api.AL }

// removed: is it one of the removed classes?
func removed(c api.Class) bool {
	switch c {
	case api.LRE, api.RLE, api.LRO, api.RLO, api.PDF, api.BN:
		return true
	}
	return false
}

// strong tells the first strong class of a text that begins and ends at these
// places of classes. It leaps over isolates, so that the texts of all isolates,
// however deep they stand in one another, cost one pass.
func strong(l []api.Class, pairs []int, from, to int) api.Class {
	for at := from; at < to; at++ {
		c := l[at]
		switch {
		case c == api.L || rightward(c):
			return c
		case c == api.B || initiates(c) && pairs[at] < 0:
			return none
		case initiates(c):
			at = pairs[at]
		}
	}
	return none
}

// direction tells that of the greatest one of some levels.
func direction(levels ...uint8) api.Class {
	var greatest uint8
	for _, level := range levels {
		greatest = max(greatest, level)
	}
	if greatest%2 == 1 {
		return api.R
	}
	return api.L
}
