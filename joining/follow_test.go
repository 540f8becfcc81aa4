package joining_test

import (
	"math/rand"
	"slices"
	"testing"

	"calamus/api"
	"calamus/joining"
	"calamus/ucd"
)

// passed: is a character of the type JoinPass?
func passed(r rune) bool { return ucd.Joining(r) == api.JoinPass }

// unpassed tells a text without its characters of JoinPass, and the forms of those
// that stay.
func unpassed(l []rune, forms []uint8) ([]rune, []uint8) {
	var staying []rune
	var kept []uint8
	for at, r := range l {
		if !passed(r) {
			staying, kept = append(staying, r), append(kept, forms[at])
		}
	}
	return staying, kept
}

// P15.4: without the characters of JoinPass the others have the same forms; with
// more of them, too; they themselves have none.
func TestPassedChangeNothing(t *testing.T) {
	taken := 0
	someTexts(154, 30000, 40, func(random *rand.Rand, l []rune) {
		for range random.Intn(6) {
			pass := kinds[3][random.Intn(len(kinds[3]))]
			l = slices.Insert(l, random.Intn(len(l)+1), pass)
		}
		forms := joining.Forms(l)
		for at, r := range l {
			if passed(r) && forms[at] != api.FormNone {
				t.Fatalf("%X, at %d: %s", l, at, letters(forms))
			}
		}
		staying, kept := unpassed(l, forms)
		if got := joining.Forms(staying); !slices.Equal(got, kept) {
			t.Fatalf("%X: %s, without what is passed %s", l, letters(forms), letters(got))
		}
		taken += len(l) - len(staying)
	})
	if taken < 10000 {
		t.Errorf("only %d passed", taken)
	}
}

// P15.4: where two neighbours do not join, both sides have the forms that they have
// alone, and with any other side that does not join either.
func TestApartWhereNoneJoin(t *testing.T) {
	apart, swapped := 0, 0
	someTexts(155, 20000, 25, func(random *rand.Rand, l []rune) {
		forms, other := joining.Forms(l), someText(random, 25)
		for at, r := range l {
			next := behindByWords(l, at)
			if passed(r) || next < 0 || joining.Joins(r, l[next]) {
				continue
			}
			apart++
			cut := at + 1 + random.Intn(next-at)
			if !slices.Equal(joining.Forms(l[:cut]), forms[:cut]) || !slices.Equal(joining.Forms(l[cut:]), forms[cut:]) {
				t.Fatalf("%X, apart at %d: %s", l, cut, letters(forms))
			}
			if first := behindByWords(other, -1); first < 0 || !joining.Joins(r, other[first]) {
				swapped++
				if got := joining.Forms(slices.Concat(l[:cut], other)); !slices.Equal(got[:cut], forms[:cut]) {
					t.Fatalf("%X, with %X from %d on: %s, was %s", l, other, cut, letters(got), letters(forms))
				}
			}
			if last := aheadByWords(other, len(other)); last < 0 || !joining.Joins(other[last], l[next]) {
				swapped++
				if got := joining.Forms(slices.Concat(other, l[cut:])); !slices.Equal(got[len(other):], forms[cut:]) {
					t.Fatalf("%X, with %X up to %d: %s, was %s", l, other, cut, letters(got), letters(forms))
				}
			}
		}
	})
	if apart < 10000 || swapped < 10000 {
		t.Errorf("only %d apart, %d with another side", apart, swapped)
	}
}

// P15.1, P15.4: of two neighbours that join both forms say so, if they have any.
func TestFormsOfNeighboursAgree(t *testing.T) {
	someTexts(156, 20000, 25, func(_ *rand.Rand, l []rune) {
		forms := joining.Forms(l)
		for at, r := range l {
			next := behindByWords(l, at)
			if passed(r) || next < 0 {
				continue
			}
			joined := joining.Joins(r, l[next])
			if forms[at] != api.FormNone && joined != (forms[at] == api.Initial || forms[at] == api.Medial) {
				t.Fatalf("%X, at %d: %s", l, at, letters(forms))
			}
			if forms[next] != api.FormNone && joined != (forms[next] == api.Final || forms[next] == api.Medial) {
				t.Fatalf("%X, at %d: %s", l, next, letters(forms))
			}
		}
	})
}
