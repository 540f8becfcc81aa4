package segment

import "calamus/ucd"

// The rules of lines' ends, of spaces, and of what keeps a line together.

func (at *place) behindBreak() (uint8, bool) { return Must, at.is(at.p, ucd.BreakBK) }

func (at *place) withinReturn() (uint8, bool) {
	return None, at.is(at.p, ucd.BreakCR) && at.is(at.q, ucd.BreakLF)
}

func (at *place) behindLine() (uint8, bool) {
	return Must, at.is(at.p, ucd.BreakCR, ucd.BreakLF, ucd.BreakNL)
}

func (at *place) aheadOfSpace() (uint8, bool) {
	return None, at.is(at.q, ucd.BreakBK, ucd.BreakCR, ucd.BreakLF, ucd.BreakNL, ucd.BreakSP, ucd.BreakZW)
}

func (at *place) behindZeroSpace() (uint8, bool) { return May, at.is(at.k, ucd.BreakZW) }

func (at *place) behindJoiner() (uint8, bool) { return None, at.joined() }

func (at *place) besideWordJoiner() (uint8, bool) {
	return None, at.is(at.p, ucd.BreakWJ) || at.is(at.q, ucd.BreakWJ)
}

func (at *place) behindGlue() (uint8, bool) { return None, at.is(at.p, ucd.BreakGL) }

func (at *place) aheadOfGlue() (uint8, bool) {
	return None, at.is(at.q, ucd.BreakGL) && !at.is(at.p, ucd.BreakSP, ucd.BreakBA, ucd.BreakHY)
}

func (at *place) behindSpace() (uint8, bool) { return May, at.is(at.p, ucd.BreakSP) }

func (at *place) besideObject() (uint8, bool) {
	return May, at.is(at.p, ucd.BreakCB) || at.is(at.q, ucd.BreakCB)
}
