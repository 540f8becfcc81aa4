package itemise_test

import (
	"slices"

	"calamus/api"
	"calamus/itemise"
	"calamus/ucd"
)

// The chapter's words, done one by one.

func separates(r rune) bool { return ucd.Class(r) == api.B }

// hasOwn: is a character's own script none of Common and Inherited?
func hasOwn(r rune) bool {
	return ucd.Script(r) != api.Common && ucd.Script(r) != api.Inherited
}

// partsByWords tells the parts of a text.
func partsByWords(l []rune) [][]rune {
	var all [][]rune
	for len(l) > 0 {
		to := 1
		for to < len(l) && !separates(l[to-1]) {
			to++
		}
		all = append(all, l[:to])
		l = l[to:]
	}
	return all
}

// canonical tells the bracket that counts as one.
func canonical(r rune) rune {
	switch r {
	case 0x2329:
		return 0x3008
	case 0x232A:
		return 0x3009
	}
	return r
}

// pairsByWords tells of each closing bracket of a part that pairs with one its
// opening one.
func pairsByWords(part []rune) map[int]int {
	all := []rune(brackets)
	pairs := map[int]int{}
	var waiting []int
	for at, r := range part {
		place := slices.Index(all, canonical(r))
		if place < 0 {
			continue
		}
		if place%2 == 0 {
			if len(waiting) < 64 {
				waiting = append(waiting, at)
			}
			continue
		}
		for last := len(waiting) - 1; last >= 0; last-- {
			if canonical(part[waiting[last]]) == all[place-1] {
				pairs[at] = waiting[last]
				waiting = waiting[:last]
				break
			}
		}
	}
	return pairs
}

// partScriptsByWords tells the scripts of a part's characters.
func partScriptsByWords(part []rune) []uint8 {
	scripts, pairs, now := make([]uint8, len(part)), pairsByWords(part), api.Common
	for at, r := range part {
		if hasOwn(r) {
			now = ucd.Script(r)
		}
		if opening, ok := pairs[at]; ok {
			now = scripts[opening]
		}
		scripts[at] = now
		for behind := at + 1; behind < len(part) && scripts[at] == api.Common; behind++ {
			if hasOwn(part[behind]) {
				scripts[at] = ucd.Script(part[behind])
			}
		}
	}
	return scripts
}

// scriptsByWords is what Scripts should tell.
func scriptsByWords(l []rune) []uint8 {
	scripts := []uint8{}
	for _, part := range partsByWords(l) {
		scripts = append(scripts, partScriptsByWords(part)...)
	}
	return scripts
}

// runsByWords is what Runs should tell of a text that may be.
func runsByWords(l []rune, levels []uint8) []itemise.Run {
	var runs []itemise.Run
	scripts := scriptsByWords(l)
	for from := 0; from < len(l); {
		to := from + 1
		for to < len(l) && levels[to] == levels[from] && scripts[to] == scripts[from] && !separates(l[to-1]) {
			to++
		}
		runs = append(runs, itemise.Run{From: from, To: to, Level: levels[from], Script: scripts[from]})
		from = to
	}
	return runs
}
