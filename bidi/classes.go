package bidi

import (
	"calamus/api"
	"calamus/ucd"
)

// classesOf tells the classes that characters have at first.
func classesOf(l []rune) []api.Class {
	own := make([]api.Class, len(l))
	for at, r := range l {
		own[at] = ucd.Class(r)
	}
	return own
}

// turning: may a text that has this character have another level than 0?
func turning(r rune) bool {
	switch ucd.Class(r) {
	case api.L, api.EN, api.ES, api.ET, api.CS, api.NSM, api.BN, api.S, api.WS, api.ON:
		return false
	}
	return true
}
