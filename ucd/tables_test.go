package ucd_test

import (
	"math"
	"math/rand"
	"strconv"
	"strings"
	"testing"

	"calamus/api"
	"calamus/ucd"
)

// number tells a number that is written to the base 16.
func number(t *testing.T, s string) rune {
	t.Helper()
	n, err := strconv.ParseInt(s, 16, 32)
	if err != nil {
		t.Fatal(err)
	}
	return rune(n)
}

// said tells what a table of the document says of its characters: of each one
// the name of the first row that has it.
func said(t *testing.T, text string) map[rune]string {
	t.Helper()
	names := map[rune]string{}
	for _, line := range strings.Split(text, "\n") {
		name, spans, _ := strings.Cut(line, ": ")
		for _, s := range strings.Split(spans, ", ") {
			first, last, ok := strings.Cut(s, " to ")
			if !ok {
				last = first
			}
			for r := number(t, first); r <= number(t, last); r++ {
				if names[r] == "" {
					names[r] = name
				}
			}
		}
	}
	return names
}

// everyRune goes through all characters, and runes that are none.
func everyRune(each func(r rune)) {
	for r := rune(-0x1000); r < 0x112000; r++ {
		each(r)
	}
	for r := rune(0x112000); r > 0; r = r<<1 | 1 {
		each(r)
	}
	for _, r := range []rune{math.MinInt32, math.MinInt32 + 0x41, math.MinInt32 + 0x20, -0x110000, -0x10FFFF, 0x110041, 0x1000041, 0x7F000020, math.MaxInt32 - 1, math.MaxInt32} {
		each(r)
	}
	random := rand.New(rand.NewSource(2))
	for range 10000 {
		each(rune(random.Uint32()))
	}
}

// same holds a face against its table: of a row's characters the row's number,
// of all others the one of others.
func same[N interface{ ~uint8 }](t *testing.T, text string, face func(rune) N, numbers map[string]N, others string) {
	t.Helper()
	if _, ok := numbers[others]; !ok {
		t.Fatal(others)
	}
	names := said(t, text)
	everyRune(func(r rune) {
		name := names[r]
		if name == "" {
			name = others
		}
		want, ok := numbers[name]
		if !ok {
			t.Fatalf("no number of %s", name)
		}
		if n := face(r); n != want {
			t.Fatalf("of %X: %d, want %d (%s)", r, n, want, name)
		}
	})
}

// P2.2.
func TestClass(t *testing.T) {
	same(t, classText, ucd.Class, map[string]api.Class{
		"L": 1, "R": 2, "AL": 3, "EN": 4, "ES": 5, "ET": 6, "AN": 7, "CS": 8, "NSM": 9, "BN": 10, "B": 11, "S": 12, "WS": 13, "ON": 14,
		"LRE": 15, "RLE": 16, "LRO": 17, "RLO": 18, "PDF": 19, "LRI": 20, "RLI": 21, "FSI": 22, "PDI": 23,
	}, "L")
}

// P2.2.
func TestJoining(t *testing.T) {
	same(t, joiningText, ucd.Joining, map[string]uint8{"JoinNone": 0, "JoinRight": 1, "JoinDual": 2, "JoinCause": 3, "JoinPass": 4}, "JoinNone")
}

// P2.2, and the numbers of the classes.
func TestBreak(t *testing.T) {
	numbers := map[string]uint8{}
	for n, name := range strings.Fields("AL BK CR LF NL SP ZW WJ GL CM ZWJ BA BB B2 HY CB EX IN NS OP CP CL QU IS SY PO PR NU HL ID EB EM RI JL JV JT H2 H3") {
		numbers["Break"+name] = uint8(n)
	}
	same(t, breakText+"\n"+syllableText("BreakH2", "BreakH3"), ucd.Break, numbers, "BreakAL")
	if ucd.BreakAL != 0 || ucd.BreakBA != 11 || ucd.BreakCL != 21 || ucd.BreakRI != 32 || ucd.BreakH3 != 37 {
		t.Error("the numbers of the classes")
	}
}

// P2.2, and the numbers of the classes.
func TestCluster(t *testing.T) {
	numbers := map[string]uint8{}
	for n, name := range strings.Fields("Other CR LF Control Extend ZWJ RI Prepend HL HV HT LV LVT Pict") {
		numbers["Cluster"+name] = uint8(n)
	}
	same(t, clusterText+"\n"+syllableText("ClusterLV", "ClusterLVT"), ucd.Cluster, numbers, "ClusterOther")
	if ucd.ClusterOther != 0 || ucd.ClusterExtend != 4 || ucd.ClusterPict != 13 {
		t.Error("the numbers of the classes")
	}
}

// syllableText tells the rows of the Hangul syllables.
func syllableText(open, closed string) string {
	var opens, closeds []string
	for r := int64(0xAC00); r <= 0xD7A3; r++ {
		s := strconv.FormatInt(r, 16)
		if (r-0xAC00)%28 == 0 {
			opens = append(opens, s)
		} else {
			closeds = append(closeds, s)
		}
	}
	return open + ": " + strings.Join(opens, ", ") + "\n" + closed + ": " + strings.Join(closeds, ", ")
}

// P2.2.
func TestScript(t *testing.T) {
	same(t, scriptText, ucd.Script, map[string]uint8{"Common": 0, "Inherited": 1, "Latin": 2, "Hebrew": 3, "Arabic": 4, "Greek": 5, "Hangul": 6, "Han": 7}, "Common")
}

// P2.2.
func TestWideSpace(t *testing.T) {
	wide, space := said(t, wideText), said(t, spaceText)
	everyRune(func(r rune) {
		if ucd.Wide(r) != (wide[r] != "") {
			t.Fatalf("Wide(%X) = %t", r, ucd.Wide(r))
		}
		if ucd.Space(r) != (space[r] != "") {
			t.Fatalf("Space(%X) = %t", r, ucd.Space(r))
		}
	})
}

// pairs tells the pairs of a text, the opening one ahead.
func pairs(t *testing.T, text string) [][2]rune {
	t.Helper()
	var out [][2]rune
	for _, s := range strings.Split(text, ", ") {
		a, b, _ := strings.Cut(s, " ")
		out = append(out, [2]rune{number(t, a), number(t, b)})
	}
	return out
}

// P2.3.
func TestBracket(t *testing.T) {
	opens, closes := map[rune]rune{}, map[rune]rune{}
	for _, p := range pairs(t, bracketText) {
		closing := p[1]
		if p[0] == 0x2329 {
			closing = 0x3009
		}
		opens[p[0]], closes[p[1]] = closing, closing
	}
	everyRune(func(r rune) {
		want, opening := opens[r]
		if !opening {
			want = closes[r]
		}
		if p, open, ok := ucd.Bracket(r); p != want || open != opening || ok != (want != 0) {
			t.Fatalf("Bracket(%X) = %X %t %t", r, p, open, ok)
		}
	})
	for _, x := range []struct {
		r, pair  rune
		open, ok bool
	}{
		{0x28, 0x29, true, true}, {0x29, 0x29, false, true},
		{0x2329, 0x3009, true, true}, {0x232A, 0x3009, false, true},
		{0x3008, 0x3009, true, true}, {0x3009, 0x3009, false, true},
		{0x301A, 0x301B, true, true}, {0x301B, 0x301B, false, true},
		{0x3C, 0, false, false}, {0x3E, 0, false, false}, {0xAB, 0, false, false}, {0x41, 0, false, false},
		{-1, 0, false, false}, {0x110028, 0, false, false}, {math.MinInt32, 0, false, false},
	} {
		if p, open, ok := ucd.Bracket(x.r); p != x.pair || open != x.open || ok != x.ok {
			t.Errorf("Bracket(%X) = %X %t %t", x.r, p, open, ok)
		}
	}
}

// P2.3.
func TestMirror(t *testing.T) {
	others := map[rune]rune{}
	for _, p := range append(pairs(t, bracketText), pairs(t, mirrorText)...) {
		others[p[0]], others[p[1]] = p[1], p[0]
	}
	everyRune(func(r rune) {
		want, mirrored := others[r]
		if !mirrored {
			want = r
		}
		if m, ok := ucd.Mirror(r); m != want || ok != mirrored {
			t.Fatalf("Mirror(%X) = %X %t", r, m, ok)
		}
	})
	for _, x := range []struct {
		r, m rune
		ok   bool
	}{
		{0x28, 0x29, true}, {0x2329, 0x232A, true}, {0x232A, 0x2329, true}, {0x3009, 0x3008, true},
		{0x3C, 0x3E, true}, {0x3E, 0x3C, true}, {0x2283, 0x2282, true}, {0xBB, 0xAB, true},
		{0x41, 0x41, false}, {0, 0, false}, {-1, -1, false}, {math.MinInt32, math.MinInt32, false}, {math.MaxInt32, math.MaxInt32, false},
	} {
		if m, ok := ucd.Mirror(x.r); m != x.m || ok != x.ok {
			t.Errorf("Mirror(%X) = %X %t", x.r, m, ok)
		}
	}
}

// P2.5, of the tables.
func TestTablesFollow(t *testing.T) {
	everyRune(func(r rune) {
		m, _ := ucd.Mirror(r)
		if again, _ := ucd.Mirror(m); again != r {
			t.Fatalf("Mirror(Mirror(%X)) = %X", r, again)
		}
		if ucd.Class(r) == api.NSM && (ucd.Joining(r) != api.JoinPass || ucd.Cluster(r) != ucd.ClusterExtend) {
			t.Fatalf("the mark %X: %d %d", r, ucd.Joining(r), ucd.Cluster(r))
		}
		pair, open, ok := ucd.Bracket(r)
		if !ok {
			return
		}
		pairOfMirror, openMirror, okMirror := ucd.Bracket(m)
		if ucd.Class(r) != api.ON || !okMirror || openMirror == open || pairOfMirror != pair {
			t.Fatalf("the bracket %X: class %d, its mirror %X: %X %t %t", r, ucd.Class(r), m, pairOfMirror, openMirror, okMirror)
		}
	})
}

// The chapter's examples.
func TestExamples(t *testing.T) {
	for name, ok := range map[string]bool{
		"class of 628":     ucd.Class(0x628) == api.AL,
		"joining of 628":   ucd.Joining(0x628) == api.JoinDual,
		"script of 628":    ucd.Script(0x628) == api.Arabic,
		"joining of 627":   ucd.Joining(0x627) == api.JoinRight,
		"joining of 640":   ucd.Joining(0x640) == api.JoinCause,
		"script of 640":    ucd.Script(0x640) == api.Common,
		"class of 64E":     ucd.Class(0x64E) == api.NSM,
		"joining of 64E":   ucd.Joining(0x64E) == api.JoinPass,
		"break of 64E":     ucd.Break(0x64E) == ucd.BreakCM,
		"cluster of 64E":   ucd.Cluster(0x64E) == ucd.ClusterExtend,
		"script of 64E":    ucd.Script(0x64E) == api.Inherited,
		"class of 41":      ucd.Class(0x41) == api.L,
		"break of 41":      ucd.Break(0x41) == ucd.BreakAL,
		"script of 41":     ucd.Script(0x41) == api.Latin,
		"class of 5D0":     ucd.Class(0x5D0) == api.R,
		"break of 5D0":     ucd.Break(0x5D0) == ucd.BreakHL,
		"script of 5D0":    ucd.Script(0x5D0) == api.Hebrew,
		"break of 28":      ucd.Break(0x28) == ucd.BreakOP,
		"break of 20":      ucd.Break(0x20) == ucd.BreakSP,
		"20, a space":      ucd.Space(0x20),
		"AC00, wide":       ucd.Wide(0xAC00),
		"break of AC00":    ucd.Break(0xAC00) == ucd.BreakH2,
		"cluster of AC00":  ucd.Cluster(0xAC00) == ucd.ClusterLV,
		"break of AC01":    ucd.Break(0xAC01) == ucd.BreakH3,
		"cluster of AC01":  ucd.Cluster(0xAC01) == ucd.ClusterLVT,
		"break of 1F1E6":   ucd.Break(0x1F1E6) == ucd.BreakRI,
		"cluster of 1F1E6": ucd.Cluster(0x1F1E6) == ucd.ClusterRI,
	} {
		if !ok {
			t.Error(name)
		}
	}
}
