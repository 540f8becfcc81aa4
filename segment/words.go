package segment

import "calamus/ucd"

// The rules of letters, numbers, syllables and pictures.

// letter: is a unit a letter?
func (t *text) letter(unit int) bool { return t.is(unit, ucd.BreakAL, ucd.BreakHL) }

// digit: is a unit a digit?
func (t *text) digit(unit int) bool { return t.is(unit, ucd.BreakNU) }

// ofWord: is a unit one of a word?
func (t *text) ofWord(unit int) bool { return t.letter(unit) || t.digit(unit) }

// sign: is a unit a sign that stands ahead of numbers, or behind them?
func (t *text) sign(unit int) bool { return t.is(unit, ucd.BreakPR, ucd.BreakPO) }

// picture: is a unit an ideograph or a picture?
func (t *text) picture(unit int) bool {
	return t.is(unit, ucd.BreakID, ucd.BreakEB, ucd.BreakEM)
}

// syllable: is a unit a Hangul syllable, or a part of one?
func (t *text) syllable(unit int) bool {
	return t.is(unit, ucd.BreakJL, ucd.BreakJV, ucd.BreakJT, ucd.BreakH2, ucd.BreakH3)
}

func (at *place) slashHebrew() (uint8, bool) {
	return None, at.is(at.p, ucd.BreakSY) && at.is(at.q, ucd.BreakHL)
}

func (at *place) letterDigit() (uint8, bool) {
	return None, at.letter(at.p) && at.digit(at.q) || at.digit(at.p) && at.letter(at.q)
}

func (at *place) signIdeograph() (uint8, bool) {
	return None, at.is(at.p, ucd.BreakPR) && at.picture(at.q) || at.picture(at.p) && at.is(at.q, ucd.BreakPO)
}

func (at *place) signLetter() (uint8, bool) {
	return None, at.sign(at.p) && at.letter(at.q) || at.letter(at.p) && at.sign(at.q)
}

func (at *place) aheadOfDecimals() (uint8, bool) {
	return May, at.is(at.p, ucd.BreakSP) && at.is(at.q, ucd.BreakIS) && at.digit(at.n)
}

func (at *place) numberSign() (uint8, bool) {
	return None, at.sign(at.q) && (at.number || at.numberAhead && at.is(at.p, ucd.BreakCL, ucd.BreakCP))
}

func (at *place) signNumber() (uint8, bool) {
	return None, at.sign(at.p) && (at.digit(at.q) || at.is(at.q, ucd.BreakOP) &&
		(at.digit(at.n) || at.is(at.n, ucd.BreakIS) && at.digit(at.m)))
}

func (at *place) hyphenDigit() (uint8, bool) {
	return None, at.is(at.p, ucd.BreakHY, ucd.BreakIS) && at.digit(at.q)
}

func (at *place) numberDigit() (uint8, bool) { return None, at.number && at.digit(at.q) }

func (at *place) withinSyllable() (uint8, bool) {
	return None, at.is(at.p, ucd.BreakJL) && at.is(at.q, ucd.BreakJL, ucd.BreakJV, ucd.BreakH2, ucd.BreakH3) ||
		at.is(at.p, ucd.BreakJV, ucd.BreakH2) && at.is(at.q, ucd.BreakJV, ucd.BreakJT) ||
		at.is(at.p, ucd.BreakJT, ucd.BreakH3) && at.is(at.q, ucd.BreakJT)
}

func (at *place) signSyllable() (uint8, bool) {
	return None, at.syllable(at.p) && at.is(at.q, ucd.BreakPO) || at.is(at.p, ucd.BreakPR) && at.syllable(at.q)
}

func (at *place) betweenLetters() (uint8, bool) {
	return None, at.letter(at.p) && at.letter(at.q)
}

func (at *place) separatorLetter() (uint8, bool) {
	return None, at.is(at.p, ucd.BreakIS) && at.letter(at.q)
}

func (at *place) withinFlag() (uint8, bool) { return None, at.odd && at.is(at.q, ucd.BreakRI) }

func (at *place) withinPicture() (uint8, bool) {
	return None, at.is(at.p, ucd.BreakEB) && at.is(at.q, ucd.BreakEM)
}
