package resolve_test

import (
	"math/rand"
	"slices"
	"testing"

	"calamus/api"
	"calamus/resolve"
)

// followRows goes through rows of classes, with the sos L and R.
func followRows(seed int64, each func(l []api.Class, sos api.Class)) {
	both := func(l []api.Class) {
		each(l, api.L)
		each(l, api.R)
	}
	for n := range 4 {
		everyRow(everyClass(), n, both)
	}
	r := rand.New(rand.NewSource(seed))
	for range 10000 {
		both(anyRow(r, 40, everyClass()))
	}
}

// strongAhead tells the last L or R ahead of a place; else the sos.
func strongAhead(l []api.Class, at int, sos api.Class) api.Class {
	for _, c := range l[:at] {
		if c == api.L || c == api.R {
			sos = c
		}
	}
	return sos
}

// P11.7: behind Weak there is no AL, ES, ET, CS or NSM; an EN is one behind an R
// only; others stay.
func TestWeakFollows(t *testing.T) {
	followRows(117, func(l []api.Class, sos api.Class) {
		got := resolve.Weak(l, sos)
		if len(got) != len(l) {
			t.Fatalf("%d: %d", l, got)
		}
		for at, c := range got {
			weak := has(l[at], api.AL, api.ES, api.ET, api.CS, api.NSM)
			switch {
			case has(c, api.AL, api.ES, api.ET, api.CS, api.NSM):
				t.Fatalf("%d, %d: %d, with a %d", l, sos, got, c)
			case c == api.EN && strongAhead(got, at, sos) != api.R:
				t.Fatalf("%d, %d: %d, with an EN behind an L", l, sos, got)
			case !weak && l[at] != api.EN && c != l[at]:
				t.Fatalf("%d, %d: %d, in which a %d has become a %d", l, sos, got, l[at], c)
			case (c == api.BN) != (l[at] == api.BN):
				t.Fatalf("%d, %d: %d, with other BN", l, sos, got)
			}
		}
	})
}

// P11.7: done again, Weak changes nothing more; by another sos, the EN that no R
// stands ahead of.
func TestWeakAgain(t *testing.T) {
	followRows(127, func(l []api.Class, sos api.Class) {
		once := resolve.Weak(l, sos)
		if again := resolve.Weak(once, sos); !slices.Equal(again, once) {
			t.Fatalf("%d, %d: %d, then %d", l, sos, once, again)
		}
		for at, c := range resolve.Weak(once, api.L) {
			if c != once[at] && (once[at] != api.EN || c != api.L || strongAhead(once, at, api.L) == api.R) {
				t.Fatalf("%d, %d: %d, of which a %d at %d", l, sos, once, c, at)
			}
		}
	})
}

// followTexts goes through texts, with their classes behind Weak.
func followTexts(seed int64, each func(l []rune, first, now []api.Class, level uint8, sos api.Class)) {
	r := rand.New(rand.NewSource(seed))
	for range 20000 {
		l := anyRow(r, 60, []rune("a\u05d0\u06451\u0661()([])][{\u0301\u0301\u200b !\u2329\u3008\u3009\u2067\u2069\n\t"))
		first, sos := classesOf(l), api.L+api.Class(r.Intn(2))
		each(l, first, resolve.Weak(first, sos), uint8(r.Intn(126)), sos)
	}
}

// P11.8: pairs are in one another, or beside each other, and of one kind.
func TestBracketsFollow(t *testing.T) {
	followTexts(118, func(l []rune, _, now []api.Class, _ uint8, _ api.Class) {
		pairs := resolve.Brackets(l, now)
		for i, p := range pairs {
			one, opens := bracket(l[p.Open])
			other, closes := bracket(l[p.Close])
			if one != other || !opens || closes || p.Open >= p.Close {
				t.Fatalf("%q: %d", l, p)
			}
			for _, q := range pairs[i+1:] {
				if q.Open <= p.Open || q.Open == p.Close || q.Open < p.Close && q.Close >= p.Close {
					t.Fatalf("%q: %d and %d", l, p, q)
				}
			}
		}
	})
}

// P11.8: both brackets of a pair become the same; nothing but brackets, and marks
// behind them, changes.
func TestPairsFollow(t *testing.T) {
	changed := 0
	followTexts(128, func(l []rune, first, now []api.Class, level uint8, sos api.Class) {
		got, _ := resolve.Pairs(l, first, now, level, sos)
		paired := map[int]bool{}
		for _, p := range resolve.Brackets(l, now) {
			paired[p.Open], paired[p.Close] = true, true
			if got[p.Open] != got[p.Close] || !has(got[p.Open], api.L, api.R, api.ON) {
				t.Fatalf("%q, %d: %d", l, now, got)
			}
		}
		for at, c := range got {
			if c == now[at] {
				continue
			}
			changed++
			from := at
			for first[from] == api.NSM || now[from] == api.BN {
				from--
			}
			if !paired[from] || now[at] == api.BN || c != got[from] {
				t.Fatalf("%q, %d: %d, at %d", l, now, got, at)
			}
		}
	})
	if changed < 10000 {
		t.Errorf("only %d have changed", changed)
	}
}

// P11.9: behind Neutral there are L, R, EN, AN and BN alone, and the levels are of
// the direction.
func TestNeutralFollows(t *testing.T) {
	followTexts(119, func(l []rune, first, now []api.Class, level uint8, sos api.Class) {
		pairs, _ := resolve.Pairs(l, first, now, level, sos)
		got := resolve.Neutral(pairs, level, sos, api.R)
		levels := resolve.Levels(got, level)
		if len(got) != len(l) || len(levels) != len(l) {
			t.Fatalf("%q: %d %d", l, got, levels)
		}
		for at, c := range got {
			var right bool
			switch c {
			case api.R:
				right = levels[at]%2 == 1
			case api.L, api.EN, api.AN:
				right = levels[at]%2 == 0
			case api.BN:
				right = levels[at] == level && pairs[at] == api.BN
			}
			if !right || levels[at] < level || levels[at] > level+2 {
				t.Fatalf("%q, %d, of %d: %d, %d", l, pairs, level, got, levels)
			}
		}
	})
}
