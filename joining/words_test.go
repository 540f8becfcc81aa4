package joining_test

import (
	"calamus/api"
	"calamus/ucd"
)

// The chapter's words, done one by one.

// joinByWords: do two characters join, the one ahead with the one behind?
func joinByWords(a, b rune) bool {
	first, second := ucd.Joining(a), ucd.Joining(b)
	return (first == api.JoinDual || first == api.JoinCause || first == api.JoinLeft) &&
		(second == api.JoinRight || second == api.JoinDual || second == api.JoinCause)
}

// aheadByWords tells the place of a character's neighbour ahead, or -1.
func aheadByWords(l []rune, at int) int {
	for at--; at >= 0; at-- {
		if ucd.Joining(l[at]) != api.JoinPass {
			return at
		}
	}
	return -1
}

// behindByWords tells the place of a character's neighbour behind, or -1.
func behindByWords(l []rune, at int) int {
	for at++; at < len(l); at++ {
		if ucd.Joining(l[at]) != api.JoinPass {
			return at
		}
	}
	return -1
}

// formByWords tells the form of one character of a text.
func formByWords(l []rune, at int) uint8 {
	ahead, behind := aheadByWords(l, at), behindByWords(l, at)
	joinedAhead := ahead >= 0 && joinByWords(l[ahead], l[at])
	joinedBehind := behind >= 0 && joinByWords(l[at], l[behind])
	switch ucd.Joining(l[at]) {
	case api.JoinRight:
		if joinedAhead {
			return api.Final
		}
		return api.Isolated
	case api.JoinLeft:
		if joinedBehind {
			return api.Initial
		}
		return api.Isolated
	case api.JoinDual:
		switch {
		case joinedAhead && joinedBehind:
			return api.Medial
		case joinedAhead:
			return api.Final
		case joinedBehind:
			return api.Initial
		}
		return api.Isolated
	}
	return api.FormNone
}

// formsByWords is what Forms should tell.
func formsByWords(l []rune) []uint8 {
	forms := []uint8{}
	for at := range l {
		forms = append(forms, formByWords(l, at))
	}
	return forms
}
