package joining_test

import (
	"testing"

	"calamus/joining"
	"calamus/ucd"
)

// P15.2: by hand: each type ahead of each one.
func TestJoinsByHand(t *testing.T) {
	all := []rune(one) // right, dual, cause, pass, none
	for i, want := range []string{"-----", "111--", "111--", "-----", "-----"} {
		for k, b := range all {
			if got := joining.Joins(all[i], b); got != (want[k] == '1') {
				t.Errorf("%X %X: %t", all[i], b, got)
			}
		}
	}
}

// P15.2: each character, ahead of one of each type and behind it; the faces of both
// promises say the same.
func TestJoinsOfEveryCharacter(t *testing.T) {
	for r := rune(-3); r < 0x110003; r++ {
		for _, other := range one {
			if got := joining.Joins(r, other); got != joinByWords(r, other) {
				t.Fatalf("%X %X, of the types %d %d: %t", r, other, ucd.Joining(r), ucd.Joining(other), got)
			}
			if got := joining.Joins(other, r); got != joinByWords(other, r) {
				t.Fatalf("%X %X, of the types %d %d: %t", other, r, ucd.Joining(other), ucd.Joining(r), got)
			}
		}
	}
}

// P15.2: any two of all kinds, those that are no characters of Unicode's among them.
func TestJoinsAnywhere(t *testing.T) {
	for i, ahead := range kinds {
		for k, behind := range kinds {
			want := (i == 1 || i == 2) && k <= 2
			for _, a := range ahead {
				for _, b := range behind {
					if got := joining.Joins(a, b); got != want {
						t.Errorf("%X %X: %t", a, b, got)
					}
				}
			}
		}
	}
}
