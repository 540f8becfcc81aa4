package bidi_test

import (
	"slices"

	"calamus/api"
	"calamus/embed"
	"calamus/resolve"
	"calamus/ucd"
)

// The chapter's words, done one by one, one sequence behind the other.

// has: is the class among these?
func has(c api.Class, among ...api.Class) bool { return slices.Contains(among, c) }

// isRemoved: is a character of a removed class?
func isRemoved(r rune) bool {
	return has(ucd.Class(r), api.LRE, api.RLE, api.LRO, api.RLO, api.PDF, api.BN)
}

// ownClasses tells the classes that characters have at first.
func ownClasses(l []rune) []api.Class {
	var own []api.Class
	for _, r := range l {
		own = append(own, ucd.Class(r))
	}
	return own
}

// levelsByWords is what Levels should tell of a text and a base that may be.
func levelsByWords(l []rune, base uint8) ([]uint8, uint8) {
	explicit, classes, paragraph, _ := embed.Levels(ownClasses(l), base)
	sequences, _ := embed.Sequences(ownClasses(l), explicit, paragraph)
	told := map[int]uint8{}
	for _, s := range sequences {
		var characters []rune
		var first []api.Class
		for _, at := range s.Places {
			characters, first = append(characters, l[at]), append(first, classes[at])
		}
		weak := resolve.Weak(first, s.Sos)
		pairs, _ := resolve.Pairs(characters, first, weak, s.Level, s.Sos)
		neutral := resolve.Neutral(pairs, s.Level, s.Sos, s.Eos)
		for i, level := range resolve.Levels(neutral, s.Level) {
			told[s.Places[i]] = level
		}
	}
	levels := []uint8{}
	for at, r := range l {
		level, ok := told[at]
		switch {
		case isRemoved(r) == ok:
			panic("a place is in no sequence, or what is removed is in one")
		case isRemoved(r) && at == 0:
			level = paragraph
		case isRemoved(r):
			level = levels[at-1]
		}
		levels = append(levels, level)
	}
	return levels, paragraph
}

// plainByWords is what Plain should tell.
func plainByWords(l []rune) bool {
	for _, c := range ownClasses(l) {
		if !has(c, api.L, api.EN, api.ES, api.ET, api.CS, api.NSM, api.BN, api.S, api.WS, api.ON) {
			return false
		}
	}
	return true
}
