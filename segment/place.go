package segment

import "calamus/ucd"

// place is one between two units of a text. Its units have the chapter's names;
// what the rules ask of all that stands ahead is carried along, so that no rule
// has to go back.
type place struct {
	text
	o, p, q, n, m int  // one behind the other, the place between p and q
	j, k          int  // k: the last one up to p that is no space; j: the one ahead of it
	numberAhead   bool // a number ends with o
	number        bool // a number ends with p
	odd           bool // an odd number of RI, one behind the other, ends with p
}

// firstPlace tells the first place of characters.
func firstPlace(l []rune) *place {
	at := &place{text: textOf(l), o: -1, p: -1, j: -1, k: -1}
	at.n = at.next(at.q)
	at.m = at.next(at.n)
	at.goOn()
	return at
}

// goOn goes on to the place behind the next unit.
func (at *place) goOn() {
	at.o, at.p, at.q, at.n, at.m = at.p, at.q, at.n, at.m, at.next(at.m)
	if !at.is(at.p, ucd.BreakSP) {
		at.j, at.k = at.o, at.p
	}
	at.numberAhead = at.number
	at.number = at.is(at.p, ucd.BreakNU) || at.numberAhead && at.is(at.p, ucd.BreakSY, ucd.BreakIS)
	at.odd = at.is(at.p, ucd.BreakRI) && !at.odd
}

// joined: is p's last character a ZWJ?
func (at *place) joined() bool { return ucd.Break(at.characters[at.q-1]) == ucd.BreakZWJ }
