package segment

import "calamus/ucd"

// The rules of brackets, quotes, dashes and other marks.

// hyphen is one that a letter follows as it follows a HY, which it is not.
const hyphen = 0x2010

// edge: does what stands beside a unit, or beside none, stand as at an edge of the
// text?
func (t *text) edge(unit int) bool {
	return t.is(unit, absent, ucd.BreakBK, ucd.BreakCR, ucd.BreakLF, ucd.BreakNL, ucd.BreakSP, ucd.BreakZW, ucd.BreakGL)
}

func (at *place) aheadOfClosing() (uint8, bool) {
	return None, at.is(at.q, ucd.BreakCL, ucd.BreakCP, ucd.BreakEX, ucd.BreakSY)
}

func (at *place) behindOpening() (uint8, bool) { return None, at.is(at.k, ucd.BreakOP) }

func (at *place) behindOpeningQuote() (uint8, bool) {
	return None, at.opens(at.k) && (at.edge(at.j) || at.is(at.j, ucd.BreakOP, ucd.BreakQU))
}

func (at *place) aheadOfClosingQuote() (uint8, bool) {
	return None, at.closes(at.q) && (at.edge(at.n) || at.is(at.n, ucd.BreakWJ, ucd.BreakCL, ucd.BreakQU,
		ucd.BreakCP, ucd.BreakEX, ucd.BreakIS, ucd.BreakSY))
}

func (at *place) aheadOfSeparator() (uint8, bool) { return None, at.is(at.q, ucd.BreakIS) }

func (at *place) aheadOfNonstarter() (uint8, bool) {
	return None, at.is(at.k, ucd.BreakCL, ucd.BreakCP) && at.is(at.q, ucd.BreakNS)
}

func (at *place) betweenDashes() (uint8, bool) {
	return None, at.is(at.k, ucd.BreakB2) && at.is(at.q, ucd.BreakB2)
}

func (at *place) aheadOfQuote() (uint8, bool) {
	return None, at.is(at.q, ucd.BreakQU) && !at.opens(at.q)
}

func (at *place) behindQuote() (uint8, bool) {
	return None, at.is(at.p, ucd.BreakQU) && !at.closes(at.p)
}

func (at *place) aheadOfNarrowQuote() (uint8, bool) {
	return None, at.is(at.q, ucd.BreakQU) && !(at.wide(at.p) && at.wide(at.n))
}

func (at *place) behindNarrowQuote() (uint8, bool) {
	return None, at.is(at.p, ucd.BreakQU) && !(at.wide(at.q) && at.wide(at.o))
}

func (at *place) behindFirstHyphen() (uint8, bool) {
	return None, (at.is(at.p, ucd.BreakHY) || at.begins(at.p, hyphen)) && at.is(at.q, ucd.BreakAL) &&
		(at.edge(at.o) || at.is(at.o, ucd.BreakCB))
}

func (at *place) besideHyphen() (uint8, bool) {
	return None, at.is(at.q, ucd.BreakBA, ucd.BreakHY, ucd.BreakNS) || at.is(at.p, ucd.BreakBB)
}

func (at *place) behindHebrewHyphen() (uint8, bool) {
	return None, at.is(at.o, ucd.BreakHL) && (at.is(at.p, ucd.BreakHY) || at.is(at.p, ucd.BreakBA) && !at.wide(at.p)) &&
		!at.is(at.q, ucd.BreakHL)
}

func (at *place) aheadOfEllipsis() (uint8, bool) { return None, at.is(at.q, ucd.BreakIN) }

func (at *place) besideBracket() (uint8, bool) {
	return None, at.ofWord(at.p) && at.is(at.q, ucd.BreakOP) && !at.wide(at.q) ||
		at.is(at.p, ucd.BreakCP) && !at.wide(at.p) && at.ofWord(at.q)
}
