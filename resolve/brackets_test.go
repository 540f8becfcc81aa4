package resolve_test

import (
	"math/rand"
	"slices"
	"strings"
	"testing"

	"calamus/api"
	"calamus/resolve"
)

// pairsOf tells pairs by numbers, two by two.
func pairsOf(places ...int) []resolve.Pair {
	var pairs []resolve.Pair
	for i := 0; i < len(places); i += 2 {
		pairs = append(pairs, resolve.Pair{Open: places[i], Close: places[i+1]})
	}
	return pairs
}

// nested tells the places of brackets in one another, from some place on.
func nested(from, deep, amid int) []int {
	var places []int
	for i := range deep {
		places = append(places, from+i, from+2*deep+amid-1-i)
	}
	return places
}

// P11.2: by hand.
func TestBracketsByHand(t *testing.T) {
	open, closed := strings.Repeat("(", 63), strings.Repeat(")", 63)
	for _, x := range []struct {
		text string
		want []int
	}{
		{"", nil}, {"a", nil}, {"(", nil}, {")", nil}, {")(", nil}, {"(]", nil}, {"()", []int{0, 1}}, {"<>", nil},
		{"([)]a", []int{0, 2}}, {"([)]]", []int{0, 2}}, {"[(])", []int{0, 2}}, {"([{)}]", []int{0, 3}},
		{"(a)([b)]", []int{0, 2, 3, 6}}, {"a(b[c]d)e", []int{1, 7, 3, 5}}, {"(()", []int{1, 2}}, {"())", []int{0, 1}},
		{"{[()]}", []int{0, 5, 1, 4, 2, 3}}, {"()[]{}", []int{0, 1, 2, 3, 4, 5}}, {"[()()]", []int{0, 5, 1, 2, 3, 4}},
		// Two that are canonically two others.
		{"\u2329\u232a", []int{0, 1}}, {"\u3008\u3009", []int{0, 1}}, {"\u2329\u3009", []int{0, 1}}, {"\u3008\u232a", []int{0, 1}},
		{"\u2329\u3008\u232a\u3009", []int{0, 3, 1, 2}}, {"\u27e8\u3009", nil}, {"\u300a\u3009", nil},
		// 63 wait, and no more; what is paired by then is.
		{open + closed, nested(0, 63, 0)}, {open + "a" + closed, nested(0, 63, 1)},
		{open + "(" + closed + ")", nil}, {"[]" + open + "(" + closed + ")", []int{0, 1}}, {open + "[)]" + closed[1:] + "()", nil},
		{"()" + open + ")[(" + closed, []int{0, 1, 64, 65}}, {open + ")[" + "]" + closed[1:], append(nested(0, 62, 4), 62, 63, 64, 65)},
		{open[1:] + "[a)" + "(((", []int{61, 64}},
	} {
		l := []rune(x.text)
		got := resolve.Brackets(l, classesOf(l))
		want := pairsOf(x.want...)
		slices.SortFunc(want, func(a, b resolve.Pair) int { return a.Open - b.Open })
		if !slices.Equal(got, want) {
			t.Errorf("Brackets(%q): %d, want %d", x.text, got, want)
		}
		sameBrackets(t, l, classesOf(l))
	}
}

// P11.2: each bracket of chapter 2 pairs with its own, and with no other one.
func TestBracketsOfAllKinds(t *testing.T) {
	for _, one := range brackets {
		for _, other := range brackets {
			a, b := []rune(one), []rune(other)
			for _, l := range [][]rune{{a[0], b[1]}, {a[1], b[0]}, {a[0], b[0]}, {a[1], b[1]}, {a[0], b[0], a[1], b[1]}, {a[0], b[0], b[1], a[1]}} {
				sameBrackets(t, l, slices.Repeat(row("ON"), len(l)))
			}
		}
	}
	for r := rune(-2); r < 0x11002; r++ {
		if closing, _ := bracket(r); closing != 0 {
			continue
		}
		for _, l := range [][]rune{{'(', r, r}, {'\u3008', r}, {r, r}, {r, ')'}, {r, '\u3009'}} {
			if got := resolve.Brackets(l, row("ON ON ON")); len(got) > 0 {
				t.Fatalf("%x pairs: %d", r, got)
			}
		}
	}
}

// P11.2: only those of the class ON count, whatever others are.
func TestBracketsOfClasses(t *testing.T) {
	for _, c := range everyClass() {
		for at := range 6 {
			now := slices.Repeat(row("ON"), 6)
			now[at] = c
			sameBrackets(t, []rune("([)(])"), now)
			sameBrackets(t, []rune("(()))]"), now)
		}
	}
	l := []rune("(((" + strings.Repeat("(", 70) + ")")
	now := slices.Repeat(row("L"), len(l))
	now[2], now[len(l)-1] = api.ON, api.ON
	if got := resolve.Brackets(l, now); !slices.Equal(got, pairsOf(2, len(l)-1)) {
		t.Errorf("those that do not count wait: %d", got)
	}
}

// P11.2: as far as there are classes, and characters.
func TestBracketsAsFar(t *testing.T) {
	l, now := []rune("([()])()"), slices.Repeat(row("ON"), 12)
	for n := range len(now) + 1 {
		sameBrackets(t, l, now[:n])
		sameBrackets(t, l[:min(n, len(l))], now)
	}
	if got := resolve.Brackets(l, now[:5]); !slices.Equal(got, pairsOf(1, 4, 2, 3)) {
		t.Errorf("of five classes: %d", got)
	}
	if a, b := resolve.Brackets(nil, now), resolve.Brackets(l, nil); len(a)+len(b) > 0 {
		t.Errorf("of none: %d %d", a, b)
	}
}

// P11.2: all short rows, and longer ones.
func TestBracketsOfAll(t *testing.T) {
	for n := range 8 {
		everyRow([]rune("a()[]"), n, func(l []rune) { sameBrackets(t, l, classesOf(l)) })
	}
	r := rand.New(rand.NewSource(112))
	for range 20000 {
		l := anyRow(r, 40, []rune("(((((()))))[[[]]]{{}}a \u05d0\u2329\u232a\u3008\u3009\u2045"))
		now := classesOf(l)
		for at := range now {
			if r.Intn(20) == 0 {
				now[at] = api.Class(r.Intn(25))
			}
		}
		sameBrackets(t, l, now)
	}
	for range 500 {
		sameBrackets(t, anyRow(r, 400, []rune("((([[)]")), slices.Repeat(row("ON"), 400))
	}
}

// P11.2: rows longer than a paragraph.
func TestBracketsLong(t *testing.T) {
	l := []rune(strings.Repeat("[(])", 50000))
	got := resolve.Brackets(l, slices.Repeat(row("ON"), len(l)))
	if len(got) != 50000 {
		t.Fatalf("%d pairs", len(got))
	}
	for i, p := range got {
		if p.Open != 4*i || p.Close != 4*i+2 {
			t.Fatalf("pair %d: %d", i, p)
		}
	}
}
