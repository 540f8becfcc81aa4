package ucd

// within: is a character one from the first up to the last one, which counts?
func within(r, first, last rune) bool { return first <= r && r <= last }

// mark: is a character a mark in all tables? Of 0300 to 036F not all are one in
// each, so that each table has those itself.
func mark(r rune) bool {
	return within(r, 0x0483, 0x0489) || within(r, 0x0591, 0x05BD) || r == 0x05BF || within(r, 0x05C1, 0x05C2) ||
		within(r, 0x05C4, 0x05C5) || r == 0x05C7 || within(r, 0x0610, 0x061A) || within(r, 0x064B, 0x065F) ||
		r == 0x0670 || within(r, 0x06D6, 0x06DC) || within(r, 0x06DF, 0x06E4) || within(r, 0x06E7, 0x06E8) ||
		within(r, 0x06EA, 0x06ED) || r == 0x0711 || within(r, 0x0730, 0x074A) || within(r, 0x07A6, 0x07B0) ||
		within(r, 0x20D0, 0x20F0) || r == 0xFB1E || within(r, 0xFE00, 0xFE0F) || within(r, 0xFE20, 0xFE2F) ||
		within(r, 0x1E944, 0x1E94A) || within(r, 0xE0100, 0xE01EF)
}

// The Hangul syllables; each tails-th, from the first one on, has no last
// consonant.
const (
	firstSyllable = 0xAC00
	lastSyllable  = 0xD7A3
	tails         = 28
)

// syllable: is a character a Hangul syllable?
func syllable(r rune) bool { return within(r, firstSyllable, lastSyllable) }

// openSyllable: is it one without a last consonant?
func openSyllable(r rune) bool { return syllable(r) && (r-firstSyllable)%tails == 0 }
