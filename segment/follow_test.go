package segment_test

import (
	"math/rand"
	"slices"
	"testing"

	"calamus/segment"
	"calamus/ucd"
)

// mustEnd: must a line end there, by the words of P13.3?
func mustEnd(l []rune, at int) bool {
	if at == 0 || at == len(l) {
		return at == len(l)
	}
	switch ucd.Break(l[at-1]) {
	case ucd.BreakBK, ucd.BreakNL, ucd.BreakLF:
		return true
	case ucd.BreakCR:
		return ucd.Break(l[at]) != ucd.BreakLF
	}
	return false
}

// P13.3: a line must end just behind BK, NL, LF, CR (not ahead of an LF), and at
// the end.
func TestMustEnd(t *testing.T) {
	someTexts(132, 20000, func(l []rune) {
		for at, does := range segment.Breaks(l) {
			if (does == segment.Must) != mustEnd(l, at) {
				t.Fatalf("%X, at %d: %d", l, at, does)
			}
		}
	})
}

// withEnds goes through texts with ends in them, and tells one of these.
func withEnds(each func(l []rune, at int)) {
	random := rand.New(rand.NewSource(133))
	ends := []rune{0x2028, 0xB, 0x2029, 0x85, 0xA, 0xD}
	someTexts(134, 20000, func(l []rune) {
		for range random.Intn(4) {
			l = slices.Insert(l, random.Intn(len(l)+1), ends[random.Intn(len(ends))])
		}
		for at := 1; at < len(l); at++ {
			if mustEnd(l, at) {
				each(l, at)
			}
		}
	})
}

// P13.3: what stands ahead of such an end, and behind, is as if it stood alone.
func TestApartAtEnds(t *testing.T) {
	withEnds(func(l []rune, at int) {
		ahead, behind := segment.Breaks(l[:at]), segment.Breaks(l[at:])
		if b := segment.Breaks(l); !slices.Equal(b[:at+1], ahead) || !slices.Equal(b[at+1:], behind[1:]) {
			t.Fatalf("%X, at %d: %d, alone %d and %d", l, at, b, ahead, behind)
		}
	})
}

// P13.3: no line ends ahead of a space, but where it must.
func TestAheadOfSpaces(t *testing.T) {
	someTexts(135, 20000, func(l []rune) {
		for at, does := range segment.Breaks(l)[:len(l)] {
			if l[at] == ' ' && does != segment.None && !mustEnd(l, at) {
				t.Fatalf("%X, at %d: %d", l, at, does)
			}
		}
	})
}

// P13.3: of words of letters and digits with spaces between a line may end just
// behind the spaces.
func TestWords(t *testing.T) {
	random := rand.New(rand.NewSource(136))
	of := slices.Concat(kinds["AL"][:5], kinds["HL"], kinds["NU"])
	for range 20000 {
		var l []rune
		var want []uint8
		for range random.Intn(6) {
			for i := range 1 + random.Intn(5) {
				l, want = append(l, of[random.Intn(len(of))]), append(want, segment.None)
				if i == 0 && len(l) > 1 {
					want[len(want)-1] = segment.May
				}
			}
			for range 1 + random.Intn(3) {
				l, want = append(l, ' '), append(want, segment.None)
			}
		}
		same(t, l, append(want, segment.Must))
	}
}
