package joining

import (
	"slices"
	"testing"

	"calamus/api"
)

// told is what the iterator tells of one character.
type told struct {
	at   int
	here character
}

// P15.1: neighbours are the nearest that are not passed; they may be gone over
// again, and left early.
func TestNeighbours(t *testing.T) {
	const r, d, c, none = api.JoinRight, api.JoinDual, api.JoinCause, api.JoinNone
	for text, want := range map[string][]told{
		"":       nil,
		"\u064e": nil,
		"\u0628": {{0, character{none, d, none}}},
		"a":      {{0, character{none, none, none}}},
		"\u0628\u0627\u0640": {
			{0, character{none, d, r}}, {1, character{d, r, c}}, {2, character{r, c, none}},
		},
		"\u064e\u0628\u064e\u064e\u0627\u064ea\u064e": {
			{1, character{none, d, r}}, {4, character{d, r, none}}, {6, character{r, none, none}},
		},
	} {
		all := neighbours([]rune(text))
		for range 2 {
			var got []told
			for at, here := range all {
				got = append(got, told{at, here})
			}
			if !slices.Equal(got, want) {
				t.Errorf("%+q: %v, want %v", text, got, want)
			}
		}
		for stop := range len(want) {
			last := -1
			for at := range all {
				if last = at; at == want[stop].at {
					break
				}
			}
			if last != want[stop].at {
				t.Errorf("%+q: left at %d, want %d", text, last, want[stop].at)
			}
		}
	}
}

// P15.1: characters of all types between any two; also of JoinLeft, which no text has.
func TestFormsOfAllTypes(t *testing.T) {
	joinsAhead := map[uint8]bool{api.JoinDual: true, api.JoinCause: true, api.JoinLeft: true}
	joinsBehind := map[uint8]bool{api.JoinDual: true, api.JoinCause: true, api.JoinRight: true}
	for ahead := range api.JoinLeft + 3 {
		for behind := range api.JoinLeft + 3 {
			byType := map[uint8]uint8{api.JoinRight: api.Isolated, api.JoinLeft: api.Isolated, api.JoinDual: api.Isolated}
			if joinsAhead[ahead] {
				byType[api.JoinRight], byType[api.JoinDual] = api.Final, api.Final
			}
			if joinsBehind[behind] {
				byType[api.JoinLeft], byType[api.JoinDual] = api.Initial, api.Initial
			}
			if joinsAhead[ahead] && joinsBehind[behind] {
				byType[api.JoinDual] = api.Medial
			}
			for own := range api.JoinLeft + 3 {
				if got := (character{ahead, own, behind}).form(); got != byType[own] {
					t.Errorf("%d between %d and %d: %d, want %d", own, ahead, behind, got, byType[own])
				}
			}
			if got := joins(ahead, behind); got != (joinsAhead[ahead] && joinsBehind[behind]) {
				t.Errorf("%d and %d: %t", ahead, behind, got)
			}
		}
	}
}
