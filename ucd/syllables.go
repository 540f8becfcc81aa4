package ucd

// The Hangul syllables; each tails-th, from the first one on, has no last
// consonant.
const (
	firstSyllable = 0xAC00
	lastSyllable  = 0xD7A3
	tails         = 28
)

// syllables tells all Hangul syllables.
func syllables() []span { return []span{{firstSyllable, lastSyllable}} }

// openSyllables tells those without a last consonant.
func openSyllables() []span {
	var open []span
	for r := rune(firstSyllable); r <= lastSyllable; r += tails {
		open = append(open, span{r, r})
	}
	return open
}
