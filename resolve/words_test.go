package resolve_test

import (
	"slices"
	"strings"

	"calamus/api"
	"calamus/resolve"
)

// The chapter's words, done one by one, without regard to what they cost.

// has: is the class among these?
func has(c api.Class, among ...api.Class) bool { return slices.Contains(among, c) }

// isolate: does it begin an isolate, or end one?
func isolate(c api.Class) bool { return has(c, api.LRI, api.RLI, api.FSI, api.PDI) }

// edge tells what a sos or eos counts as.
func edge(c api.Class) api.Class {
	if c != api.R {
		c = api.L
	}
	return c
}

// sides tells a level's side, and the other one.
func sides(level uint8) (side, other api.Class) {
	if level&1 != 0 {
		return api.R, api.L
	}
	return api.L, api.R
}

// placesOf tells the places of a row without BN.
func placesOf(l []api.Class) []int {
	var places []int
	for at, c := range l {
		if c != api.BN {
			places = append(places, at)
		}
	}
	return places
}

// within is a row of which some places count.
type within struct {
	l      []api.Class
	places []int
	sos    api.Class
}

// at tells the class of one of the places; 0, if it is none.
func (w *within) at(i int) api.Class {
	if i < 0 || i >= len(w.places) {
		return 0
	}
	return w.l[w.places[i]]
}

// lastOf tells the last of some classes ahead of one of the places; else the sos.
func (w *within) lastOf(i int, some ...api.Class) api.Class {
	for i--; i >= 0; i-- {
		if has(w.at(i), some...) {
			return w.at(i)
		}
	}
	return w.sos
}

// rules tells what each weak rule makes of one of the places.
func (w *within) rules() []func(i int) api.Class {
	when := func(holds bool, then api.Class, i int) api.Class {
		if holds {
			return then
		}
		return w.at(i)
	}
	return []func(i int) api.Class{
		func(i int) api.Class { // W1
			then := w.at(i - 1)
			if i == 0 {
				then = w.sos
			} else if isolate(then) {
				then = api.ON
			}
			return when(w.at(i) == api.NSM, then, i)
		},
		func(i int) api.Class {
			return when(w.at(i) == api.EN && w.lastOf(i, api.R, api.L, api.AL) == api.AL, api.AN, i)
		},
		func(i int) api.Class { return when(w.at(i) == api.AL, api.R, i) },
		func(i int) api.Class { // W4
			c, ahead := w.at(i), w.at(i-1)
			same := ahead == w.at(i+1)
			between := same && ahead == api.EN && (c == api.ES || c == api.CS) || same && ahead == api.AN && c == api.CS
			return when(between, ahead, i)
		},
		func(i int) api.Class { // W5; an ET ahead that stands by an EN is one by then
			behind := i
			for w.at(behind) == api.ET {
				behind++
			}
			return when(w.at(i) == api.ET && (w.at(i-1) == api.EN || w.at(behind) == api.EN), api.EN, i)
		},
		func(i int) api.Class {
			return when(has(w.at(i), api.ES, api.ET, api.CS), api.ON, i)
		},
		func(i int) api.Class {
			return when(w.at(i) == api.EN && w.lastOf(i, api.R, api.L) == api.L, api.L, i)
		},
	}
}

// weakByWords is what Weak should tell.
func weakByWords(l []api.Class, sos api.Class) []api.Class {
	w := &within{slices.Clone(l), placesOf(l), edge(sos)}
	for _, rule := range w.rules() {
		for i, at := range w.places {
			w.l[at] = rule(i)
		}
	}
	return w.l
}

// brackets are the chapter's: each opening one, and the closing one that pairs
// with it.
var brackets = strings.Fields("() [] {} \u2045\u2046 \u207d\u207e \u208d\u208e \u2308\u2309 \u230a\u230b \u2329\u232a \u27e6\u27e7 " +
	"\u27e8\u27e9 \u27ea\u27eb \u27ec\u27ed \u27ee\u27ef \u3008\u3009 \u300a\u300b \u300c\u300d \u300e\u300f \u3010\u3011 \u3014\u3015 " +
	"\u3016\u3017 \u3018\u3019 \u301a\u301b")

// canonical tells a closing bracket as it is canonically.
func canonical(closing rune) rune {
	if closing == 0x232a {
		return 0x3009
	}
	return closing
}

// bracket tells the closing bracket that a bracket pairs with, or is, and whether
// it is an opening one; 0 of none.
func bracket(r rune) (closing rune, opens bool) {
	for _, two := range brackets {
		both := []rune(two)
		if r == both[0] || r == both[1] {
			return canonical(both[1]), r == both[0]
		}
	}
	return 0, false
}

// bracketsByWords is what Brackets should tell.
func bracketsByWords(l []rune, now []api.Class) []resolve.Pair {
	var waiting, pairsWith []int
	var pairs []resolve.Pair
	for at := range min(len(l), len(now)) {
		if now[at] != api.ON {
			continue
		}
		closing, opens := bracket(l[at])
		if opens && len(waiting) == 63 {
			break
		}
		if opens {
			waiting, pairsWith = append(waiting, at), append(pairsWith, int(closing))
			continue
		}
		last := len(waiting) - 1
		for last >= 0 && pairsWith[last] != int(closing) {
			last--
		}
		if last >= 0 {
			pairs = append(pairs, resolve.Pair{Open: waiting[last], Close: at})
			waiting, pairsWith = waiting[:last], pairsWith[:last]
		}
	}
	slices.SortFunc(pairs, func(a, b resolve.Pair) int { return a.Open - b.Open })
	return pairs
}

// sideOf tells the side of a class; 0 of none.
func sideOf(c api.Class) api.Class {
	switch c {
	case api.L:
		return api.L
	case api.R, api.EN, api.AN:
		return api.R
	}
	return 0
}

// pairsByWords is what Pairs should tell, if no error is to be told.
func pairsByWords(l []rune, first, now []api.Class, level uint8, sos api.Class) []api.Class {
	side, other := sides(level)
	by := slices.Clone(now)
	for _, p := range bracketsByWords(l, now) {
		amid := func(which api.Class) bool {
			return slices.ContainsFunc(by[p.Open+1:p.Close], func(c api.Class) bool { return sideOf(c) == which })
		}
		last := edge(sos)
		for _, c := range by[:p.Open] {
			if sideOf(c) != 0 {
				last = sideOf(c)
			}
		}
		become := side
		if !amid(side) && !amid(other) {
			continue
		}
		if !amid(side) && last == other {
			become = other
		}
		for _, bracket := range []int{p.Open, p.Close} {
			by[bracket] = become
			for at := bracket + 1; at < len(l) && (first[at] == api.NSM || by[at] == api.BN); at++ {
				if by[at] != api.BN {
					by[at] = become
				}
			}
		}
	}
	return by
}

// neutralByWords is what Neutral should tell.
func neutralByWords(l []api.Class, level uint8, sos, eos api.Class) []api.Class {
	all, places := slices.Clone(l), placesOf(l)
	side, _ := sides(level)
	isNeutral := func(i int) bool {
		c := l[places[i]]
		return has(c, api.B, api.S, api.WS, api.ON) || isolate(c)
	}
	for i, at := range places {
		if !isNeutral(i) {
			continue
		}
		ahead, behind := i, i
		for ahead >= 0 && isNeutral(ahead) {
			ahead--
		}
		for behind < len(places) && isNeutral(behind) {
			behind++
		}
		before, after := edge(sos), edge(eos)
		if ahead >= 0 {
			before = sideOf(l[places[ahead]])
		}
		if behind < len(places) {
			after = sideOf(l[places[behind]])
		}
		all[at] = side
		if before != 0 && before == after {
			all[at] = before
		}
	}
	return all
}

// levelsByWords is what Levels should tell.
func levelsByWords(l []api.Class, level uint8) []uint8 {
	more := [2]map[api.Class]int{
		{api.R: 1, api.EN: 2, api.AN: 2},
		{api.L: 1, api.EN: 1, api.AN: 1},
	}
	levels := []uint8{}
	for _, c := range l {
		levels = append(levels, uint8((int(level)+more[level%2][c])%256))
	}
	return levels
}
