package resolve

import (
	"cmp"
	"slices"

	"calamus/api"
	"calamus/ucd"
)

// room is how many opening brackets wait at most.
const room = 63

// opening is an opening bracket that waits, and the closing one that pairs with
// it.
type opening struct {
	at      int
	closing rune
}

// stack is the opening brackets that wait.
type stack struct {
	open  [room]opening
	count int
}

// put lets an opening bracket wait; false, if there is no room.
func (s *stack) put(at int, closing rune) bool {
	if s.count == len(s.open) {
		return false
	}
	s.open[s.count] = opening{at: at, closing: closing}
	s.count++
	return true
}

// take tells the place of the last one that waits for this closing bracket, and
// takes it, with all put behind it; false, if there is none.
func (s *stack) take(closing rune) (int, bool) {
	for under, o := range slices.Backward(s.open[:s.count]) {
		if o.closing == closing {
			s.count = under
			return o.at, true
		}
	}
	return 0, false
}

// paired tells the pairs of a row, by their closing brackets.
func paired(l []rune, now []api.Class) []Pair {
	var waiting stack
	var pairs []Pair
	for at, r := range l {
		if now[at] != api.ON {
			continue
		}
		switch closing, opens, ok := ucd.Bracket(r); {
		case !ok:
		case opens:
			if !waiting.put(at, closing) {
				return pairs
			}
		default:
			if open, ok := waiting.take(closing); ok {
				pairs = append(pairs, Pair{Open: open, Close: at})
			}
		}
	}
	return pairs
}

// against tells by a number below 0 that a pair begins ahead of another one, by
// one above 0 that it begins behind.
func (p Pair) against(other Pair) int { return cmp.Compare(p.Open, other.Open) }

// becoming tells the function by which a pair's brackets become a side, by the
// classes that there are by then, or none.
func becoming(classes []api.Class, side, sos api.Class) func(p Pair) api.Class {
	return func(p Pair) api.Class {
		other := false
		for _, c := range classes[p.Open+1 : p.Close] {
			switch direction(c) {
			case none:
			case side:
				return side
			default:
				other = true
			}
		}
		if !other {
			return none
		}
		// There are but two sides: the one that stands ahead is the one to become.
		return sideAhead(classes[:p.Open], sos)
	}
}

// sideAhead tells the side of the last class of one in what stands ahead.
func sideAhead(ahead []api.Class, sos api.Class) api.Class {
	for _, c := range slices.Backward(ahead) {
		if d := direction(c); d != none {
			return d
		}
	}
	return sos
}

// turn lets a bracket become a side, and with it the marks right behind it.
func turn(classes, first []api.Class, bracket int, side api.Class) {
	classes[bracket] = side
	for at := bracket + 1; at < len(classes); at++ {
		if classes[at] == api.BN {
			continue
		}
		if first[at] != api.NSM {
			return
		}
		classes[at] = side
	}
}
