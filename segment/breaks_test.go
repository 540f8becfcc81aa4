package segment_test

import (
	"math"
	"slices"
	"strings"
	"sync"
	"testing"

	"calamus/segment"
	"calamus/ucd"
)

// P13.1: every text of up to three characters of every kind; each row of the table
// counts in one of them, and each kind has the class of its name.
func TestBreaksEvery(t *testing.T) {
	counted := map[string]bool{}
	for n := range 4 {
		everyText(everyKind(), n, func(l []rune) {
			same(t, l, breaksByWords(l, func(number string) { counted[number] = true }))
		})
	}
	for _, r := range rows {
		if !counted[r.number] {
			t.Errorf("the row %s counts in no text", r.number)
		}
	}
	for name, characters := range kinds {
		for _, r := range characters {
			if class := strings.TrimRight(name, "abcdefghijklmnopqrstuvwxyz"); class != classNames[ucd.Break(r)] && name != "2010" {
				t.Errorf("%X is no %s", r, name)
			}
		}
	}
}

// P13.1: longer texts of those characters that the rules that look farther speak
// of.
func TestBreaksFarther(t *testing.T) {
	for _, x := range []struct {
		of string
		n  int
	}{
		{"SP ZW CM ID LF", 6},                // 8
		{"SP OP QUopen QUclose QU AL ID", 5}, // 14 to 15b
		{"SP CM QUopen ID ALwide GL", 5},     // 15a, 19a
		{"QUopen QUclose QU ID AL BK", 5},    // 19, 19a
		{"SP CP CL NS NSwide B2", 5},         // 16, 17
		{"SP IS NU CM AL", 6},                // 15c, 15d
		{"HY 2010 AL HL CB SP GL", 5},        // 20a
		{"HL HY BA BAwide ID CM", 5},         // 21a
		{"NU IS SY CP PO SP", 6},             // 25
		{"NU IS OP PR CM CL", 6},             // 25
		{"RI CM ZWJ AL WJ", 7},               // 30a
		{"JL JV JT H2 H3 PO PR", 4},          // 26, 27
		{"EB EM ID ZWJ CM SP", 5},            // 8a, 30b
		{"CR LF NL BK CM ZWJ SP", 5},         // 4 to 6
	} {
		everyText(text(x.of), x.n, func(l []rune) { same(t, l, breaksByWords(l, func(string) {})) })
	}
}

// P13.1: texts of all characters of all kinds.
func TestBreaksAnywhere(t *testing.T) {
	someTexts(131, 200000, func(l []rune) { same(t, l, breaksByWords(l, func(string) {})) })
}

// P13.1: runes that are none are letters.
func TestNoRunes(t *testing.T) {
	same(t, []rune{-1, 0x110000, math.MinInt32, math.MaxInt32, ' ', -0x2028}, []uint8{0, 0, 0, 0, 0, 1, 2})
}

// P13.1: no characters, told in either way.
func TestNothing(t *testing.T) {
	same(t, nil, []uint8{segment.Must})
	same(t, []rune{}, []uint8{segment.Must})
}

// P13.1: the numbers of the answers.
func TestNumbers(t *testing.T) {
	if segment.None != 0 || segment.May != 1 || segment.Must != 2 {
		t.Error(segment.None, segment.May, segment.Must)
	}
}

// P13.1: what the rules look far back for is found in long texts, too.
func TestBreaksLong(t *testing.T) {
	const n = 1 << 20
	spaces, marks := slices.Repeat([]rune{' '}, n), slices.Repeat([]rune{0x301}, n)
	for _, x := range []struct {
		name   string
		l      []rune
		at     int
		does   uint8
		others uint8 // at all other places but the end
	}{
		{"spaces behind a bracket", slices.Concat([]rune{'('}, spaces, []rune{0x4E00}), n + 1, segment.None, segment.None},
		{"spaces behind a letter", slices.Concat([]rune{'a'}, spaces, []rune{0x4E00}), n + 1, segment.May, segment.None},
		{"spaces behind a quote", slices.Concat([]rune{0x201C}, spaces, []rune{0x4E00}), n + 1, segment.None, segment.None},
		{"spaces between dashes", slices.Concat([]rune{0x2014}, spaces, []rune{0x2014}), n + 1, segment.None, segment.None},
		{"spaces alone", slices.Concat(spaces, []rune{'a'}), n, segment.May, segment.None},
		{"marks", slices.Concat([]rune{0x4E00}, marks, []rune{0x4E01}), n + 1, segment.May, segment.None},
		{"marks and a joiner", slices.Concat([]rune{0x4E00}, marks, []rune{0x200D, 0x4E01}), n + 2, segment.None, segment.None},
		{"a number", slices.Concat([]rune{'1'}, slices.Repeat([]rune{'.', '/'}, n), []rune{')', '%'}), 2*n + 2, segment.None, segment.None},
		{"no number", slices.Concat([]rune{'a'}, slices.Repeat([]rune{'.', '/'}, n), []rune{')', '%'}), 2*n + 2, segment.May, segment.None},
		{"lines", slices.Repeat([]rune{0x2029}, n), 0, segment.None, segment.Must},
	} {
		b := segment.Breaks(x.l)
		if len(b) != len(x.l)+1 || b[len(x.l)] != segment.Must || b[x.at] != x.does {
			t.Errorf("%s: %d of %d, at %d: %d", x.name, len(b), len(x.l), x.at, b[x.at])
			continue
		}
		for at, does := range b[:len(x.l)] {
			if at != 0 && at != x.at && does != x.others {
				t.Errorf("%s: at %d: %d", x.name, at, does)
				break
			}
		}
	}
	flags := segment.Breaks(slices.Repeat([]rune{0x1F1E6}, n))
	for at, does := range flags[:n] {
		if at > 0 && does != uint8(1-at%2) {
			t.Fatalf("flags: at %d: %d", at, does)
		}
	}
}

// P13.1: what is told hangs on the text alone, however often it is asked for, and
// by however many at once.
func TestBreaksAtOnce(t *testing.T) {
	l := []rune(strings.Repeat("\u201CSome 1.5% of (these) \u05D0-a \u4E00\u4E01\u3002\u201D\r\n\U0001F1E6\U0001F1E7\U0001F1E8 ", 50))
	want := breaksByWords(l, func(string) {})
	var wait sync.WaitGroup
	for range 16 {
		wait.Go(func() {
			for range 20 {
				if !slices.Equal(segment.Breaks(l), want) {
					t.Error("other breaks")
				}
			}
		})
	}
	wait.Wait()
}
