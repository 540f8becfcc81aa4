package segment_test

import (
	"math/rand"
	"slices"
	"strings"
	"testing"

	"calamus/segment"
)

// kinds are characters by their classes' names, and by names for those that the
// rules tell apart within a class: quotes that open and close, wide ones, 2010.
var kinds = map[string][]rune{
	"AL": {'a', 'Z', 0xE9, 0x416, 0x628, 0x20000, -1, 0x110000, 0x7FFFFFFF}, "ALwide": {0x3100, 0x33FF},
	"BK": {0x2028, 0xB, 0xC, 0x2029}, "CR": {0xD}, "LF": {0xA}, "NL": {0x85}, "SP": {' '}, "ZW": {0x200B},
	"WJ": {0x2060, 0xFEFF}, "GL": {0xA0, 0x34F, 0x2007, 0x202F}, "CM": {0x301, 0, 0x591, 0x64B, 0x202A, 0xE0100}, "ZWJ": {0x200D},
	"BA": {0x9, '|', 0xAD, 0x5BE, 0x2013}, "BAwide": {0x3000}, "2010": {0x2010}, "HY": {'-'}, "BB": {0xB4}, "B2": {0x2014},
	"CB": {0xFFFC}, "EX": {'!', '?', 0x61B}, "EXwide": {0xFF01, 0xFF1F}, "IN": {0x2026, 0x2024}, "NS": {0x203C, 0x2047}, "NSwide": {0x3005, 0x301C},
	"OP": {'(', '{', 0xA1, 0x201A}, "OPwide": {0x3008, 0x301A}, "CP": {')', ']'}, "CL": {'}', 0x232A}, "CLwide": {0x3002, 0x3009},
	"QU": {'"', '\''}, "QUopen": {0x201C, 0xAB, 0x2018, 0x201B, 0x201F, 0x2039}, "QUclose": {0x201D, 0xBB, 0x2019, 0x203A},
	"IS": {'.', ',', 0x60C}, "SY": {'/'}, "PO": {'%', 0xB0, 0x66A}, "PR": {'$', '+', 0x20AC}, "NU": {'1', '0', 0x661, 0x6F9},
	"HL": {0x5D0, 0x5F2, 0xFB1D}, "ID": {0x4E00, 0x3042, 0x1F300}, "EB": {0x1F466, 0x1F44A}, "EM": {0x1F3FB, 0x1F3FF},
	"RI": {0x1F1E6, 0x1F1FF}, "JL": {0x1100, 0x115F}, "JV": {0x1160, 0x11A7}, "JT": {0x11A8, 0x11FF}, "H2": {0xAC00, 0xAC1C}, "H3": {0xAC01, 0xD7A3},
}

// kindNames are the names of the kinds, rising.
func kindNames() []string {
	var names []string
	for name := range kinds {
		names = append(names, name)
	}
	slices.Sort(names)
	return names
}

// text tells characters, one of each kind that is named.
func text(names string) []rune {
	l := []rune{}
	for name := range strings.FieldsSeq(names) {
		l = append(l, kinds[name][0])
	}
	return l
}

// everyKind is a character of each kind.
func everyKind() []rune { return text(strings.Join(kindNames(), " ")) }

// everyText goes through all texts of n out of some characters.
func everyText(of []rune, n int, each func(l []rune)) {
	l := make([]rune, n)
	var fill func(at int)
	fill = func(at int) {
		if at == n {
			each(l)
			return
		}
		for _, r := range of {
			l[at] = r
			fill(at + 1)
		}
	}
	fill(0)
}

// someTexts goes through texts of all characters of all kinds, out of a few kinds
// each, so that what rules ask for stands together often.
func someTexts(seed int64, n int, each func(l []rune)) {
	random := rand.New(rand.NewSource(seed))
	names := kindNames()
	for range n {
		few := make([]string, 1+random.Intn(8))
		for i := range few {
			few[i] = names[random.Intn(len(names))]
		}
		few = append(few, "SP", "CM")
		l := make([]rune, random.Intn(16))
		for i := range l {
			of := kinds[few[random.Intn(len(few))]]
			l[i] = of[random.Intn(len(of))]
		}
		each(l)
	}
}

// same holds Breaks against what it should tell.
func same(t *testing.T, l []rune, want []uint8) {
	t.Helper()
	if b := segment.Breaks(l); !slices.Equal(b, want) {
		t.Fatalf("Breaks(%X) = %d, want %d", l, b, want)
	}
}

// digits tells breaks, a digit each.
func digits(breaks []uint8) string {
	var b strings.Builder
	for _, does := range breaks {
		b.WriteByte('0' + does)
	}
	return b.String()
}
