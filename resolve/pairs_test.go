package resolve_test

import (
	"math/rand"
	"slices"
	"strings"
	"testing"

	"calamus/api"
	"calamus/resolve"
)

// numbered tells the classes that characters have at first, and those by now, in
// which each EN is one still.
func numbered(l []rune) (first, now []api.Class) {
	first = classesOf(l)
	now = resolve.Weak(first, api.R)
	for at, c := range first {
		if c == api.EN {
			now[at] = api.EN
		}
	}
	return first, now
}

// P11.3: the chapter's examples, and each part of the rule, by hand. (What stands
// for what: a is an L, A an alef, 1 an EN, 2 an AN, m a mark, b a BN.)
func TestPairsByHand(t *testing.T) {
	as := strings.NewReplacer("A", "\u05d0", "2", "\u0661", "m", "\u0301", "b", "\u200b")
	for _, x := range []struct {
		text  string
		level uint8
		sos   api.Class
		want  string
	}{
		{"", 0, api.L, ""}, {"a!", 1, api.R, "L ON"},
		// The chapter's.
		{"a(a)", 0, api.L, "L L L L"}, {"A(A)", 0, api.L, "R R R R"}, {"A(1)", 0, api.L, "R R EN R"},
		{"a(A)", 0, api.L, "L L R L"}, {"A(a)", 1, api.L, "R R L R"},
		{"(!)", 0, api.L, "ON ON ON"}, {"([)]a", 0, api.L, "ON ON ON ON L"}, {"A(A)m", 0, api.L, "R R R R R"},
		// The row's side, wherever it is among what stands between.
		{"A(Aa)", 0, api.R, "R L R L L"}, {"A(aA)", 0, api.R, "R L L R L"}, {"a(a!1)", 1, api.L, "L R L ON EN R"}, {"a(a2)", 255, api.L, "L R L AN R"},
		{"A(a!1)", 254, api.R, "R L L ON EN L"}, {"a(1)", 1, api.L, "L R EN R"}, {"a(2)", 3, api.L, "L R AN R"},
		// The other one: by what stands ahead, whatever is of no side between.
		{"A!! (2)", 0, api.L, "R ON ON WS R AN R"}, {"1!(A)", 0, api.L, "EN ON R R R"}, {"2b(A)", 0, api.L, "AN BN R R R"}, {"aA(1)", 2, api.L, "L R R EN R"},
		{"Aa(1)", 2, api.R, "R L L EN L"}, {"a!(a)", 1, api.R, "L ON L L L"}, {"a1(a)", 1, api.L, "L EN R L R"}, {"a2 (a)", 1, api.L, "L AN WS R L R"},
		// The sos, if nothing of a side stands ahead.
		{"(A)", 0, api.R, "R R R"}, {"(A)", 0, api.L, "L R L"}, {"(A)", 0, api.AL, "L R L"}, {"(A)", 0, 0, "L R L"}, {"(A)", 0, api.EN, "L R L"},
		{"(a)", 1, api.R, "R L R"}, {"(a)", 1, api.L, "L L L"}, {"(a)", 1, api.AL, "L L L"}, {" !(1)", 0, api.R, "WS ON R EN R"},
		// By the classes by then: brackets ahead have become what they became.
		{"(1)[1]", 0, api.L, "L EN L L EN L"}, {"(1)[1]", 0, api.R, "R EN R R EN R"}, {"A(1a)[1]", 0, api.R, "R L EN L L L EN L"},
		{"a(aA)[a]", 1, api.L, "L R L R R R L R"}, {"a(!)[1]", 0, api.R, "L ON ON ON L EN L"},
		{"A((1)a)", 0, api.L, "R L L EN L L L"}, {"A((1))", 0, api.L, "R R R EN R R"}, {"A(!(1)!)", 0, api.L, "R R ON R EN R ON R"},
		{"a([a]A)", 1, api.L, "L R R L R R R"}, {"A([!]1)", 0, api.L, "R R ON ON ON EN R"}, {"a({[1]})", 0, api.R, "L L L L EN L L L"},
		{"A(1)[!](1)", 0, api.L, "R R EN R ON ON ON R EN R"},
		// Marks right behind either bracket, over BN; not behind others.
		{"A(mA)m", 0, api.L, "R R R R R R"}, {"a(mmA)mm", 0, api.L, "L L L L R L L L"}, {"A(bmbmA)bmb", 0, api.L, "R R BN R BN R R R BN R BN"},
		{"a(!m1)!m", 0, api.L, "L L ON ON EN L ON ON"}, {"a(!)m", 0, api.L, "L ON ON ON ON"}, {"a(1)m!m", 0, api.L, "L L EN L L ON ON"},
		{"a(m(1))m", 0, api.L, "L L L L EN L L L"}, {"A(m)", 0, api.L, "R ON ON ON"}, {"a(A)[m", 0, api.L, "L L R L ON ON"},
		{"(1)m[1]", 0, api.R, "R EN R R R EN R"}, {"a(A)bb", 0, api.L, "L L R L BN BN"},
		// Brackets that pair with none stay.
		{"a(a]a", 0, api.L, "L ON L ON L"}, {"a)a(", 0, api.L, "L ON L ON"}, {"a(a", 0, api.L, "L ON L"},
	} {
		l := []rune(as.Replace(x.text))
		first, now := numbered(l)
		got, e := resolve.Pairs(l, first, now, x.level, x.sos)
		if e != api.OK || !slices.Equal(got, row(x.want)) {
			t.Errorf("%s, of %d, %d: %d %d, want %s", x.text, x.level, x.sos, got, e, x.want)
		}
		samePairs(t, l, first, now, x.level, x.sos)
	}
}

// P11.3: what no text has, but may be handed in: marks at first that are brackets,
// or BN, by now; brackets that are none by now; classes that rules know nothing of.
func TestPairsByClasses(t *testing.T) {
	for _, x := range []struct {
		text, first, now string
		want             string
	}{
		{"a(a)aa", "L ON L ON NSM NSM", "L ON L ON R BN", "L L L L L BN"},
		{"a(a)aa", "L ON L ON NSM NSM", "L ON L ON BN R", "L L L L BN L"},
		{"a(a)aa", "L ON L ON L NSM", "L ON L ON BN R", "L L L L BN L"},
		{"a(a)aa", "L ON L ON BN NSM", "L ON L ON R R", "L L L L R R"},
		{"a(a)aa", "L ON L ON ON NSM", "L ON L ON 0 R", "L L L L 0 R"},
		{"a(a)[a]", "L ON L ON NSM NSM NSM", "L ON L ON ON R ON", "L L L L L L L"},
		{"a(a)[!]", "L ON L ON NSM ON ON", "L ON L ON ON ON ON", "L L L L L ON ON"},
		{"a(a)", "NSM NSM NSM NSM", "R ON L ON", "R L L L"},
		{"a(a)", "L ON L ON", "L L L ON", "L L L ON"}, {"a(a)", "L ON L ON", "L ON L NSM", "L ON L NSM"},
		{"a(a)", "L ON L ON", "0 ON AL ON", "0 ON AL ON"}, {"a(a)", "0 0 0 0", "RLO ON L ON", "RLO L L L"},
	} {
		l := []rune(x.text)
		got, e := resolve.Pairs(l, row(x.first), row(x.now), 0, api.R)
		if e != api.OK || !slices.Equal(got, row(x.want)) {
			t.Errorf("%s, %s, %s: %d %d, want %s", x.text, x.first, x.now, got, e, x.want)
		}
		samePairs(t, l, row(x.first), row(x.now), 0, api.R)
	}
}

// P11.3: all short texts, and longer ones, of what the rule is about.
func TestPairsOfAll(t *testing.T) {
	of := []rune("a\u05d01([)]\u0301\u200b ")
	each := func(l []rune) {
		first := classesOf(l)
		for n := range uint8(4) {
			sos := api.L + api.Class(n/2)
			samePairs(t, l, first, resolve.Weak(first, sos), n%2, sos)
		}
	}
	for n := range 6 {
		everyRow(of, n, each)
	}
	everyRow([]rune("a\u05d0(\u0301)"), 7, each)
	r := rand.New(rand.NewSource(113))
	for range 20000 {
		l := anyRow(r, 60, append([]rune("\u0661((()))[]{}\u0645!\u2329\u3009\u2067\u2069"), of...))
		each(l)
		first := classesOf(l)
		samePairs(t, l, first, first, uint8(r.Intn(256)), edges()[r.Intn(len(edges()))])
	}
}

// P11.3: of any classes, by hand.
func TestPairsOfAny(t *testing.T) {
	r := rand.New(rand.NewSource(123))
	for i := range 40000 {
		l := anyRow(r, 30, []rune("((()))[[]]a1\u05d0\u0301"))
		first, now := make([]api.Class, len(l)), make([]api.Class, len(l))
		of := everyClass()
		if i%2 == 0 {
			of = row("L R EN NSM NSM BN ON ON ON")
		}
		for at := range l {
			first[at], now[at] = of[r.Intn(len(of))], of[r.Intn(len(of))]
			if r.Intn(2) == 0 {
				now[at] = api.ON
			}
		}
		samePairs(t, l, first, now, uint8(r.Intn(256)), edges()[r.Intn(len(edges()))])
	}
}

// P11.3: what is wrong, in the order in which it counts; nothing stands beside it.
func TestPairsWrong(t *testing.T) {
	long := []rune(strings.Repeat("a", 65537))
	classes := slices.Repeat(row("L"), 65538)
	for _, x := range []struct {
		what       string
		l          []rune
		first, now []api.Class
		want       api.Errno
	}{
		{"just as many", long[1:], classes[2:], classes[2:], api.OK},
		{"one more", long, classes[1:], classes[1:], api.ErrLimit},
		{"one more, and fewer classes", long, classes[2:], nil, api.ErrLimit},
		{"one more, and more classes", long, classes, classes, api.ErrLimit},
		{"one more, and no classes", long, nil, nil, api.ErrLimit},
		{"fewer at first", long[1:], classes[3:], classes[2:], api.ErrArg},
		{"fewer by now", long[1:], classes[2:], classes[3:], api.ErrArg},
		{"fewer of both", long[1:], classes[3:], classes[3:], api.ErrArg},
		{"more at first", long[1:], classes, classes[2:], api.ErrArg},
		{"more by now", long[1:], classes[2:], classes, api.ErrArg},
		{"more of both", long[1:], classes, classes, api.ErrArg},
		{"none at first", long[:1], nil, classes[:1], api.ErrArg},
		{"none by now", long[:1], classes[:1], nil, api.ErrArg},
		{"none of both", long[:1], nil, nil, api.ErrArg},
		{"no characters", nil, classes[:1], classes[:1], api.ErrArg},
		{"no characters, too many classes", nil, classes, classes, api.ErrArg},
		{"nothing", nil, nil, nil, api.OK},
		{"nothing, told otherwise", long[:0], classes[:0], nil, api.OK},
	} {
		got, e := resolve.Pairs(x.l, x.first, x.now, 0, api.L)
		if e != x.want {
			t.Errorf("%s: %d, want %d", x.what, e, x.want)
		}
		if (e != api.OK || len(x.l) == 0) && len(got) > 0 {
			t.Errorf("%s: %d beside it", x.what, got)
		}
	}
}

// P11.3: as many characters as may be, in one another and behind one another.
func TestPairsLong(t *testing.T) {
	for _, x := range []struct {
		begin, again string
		want         string
	}{
		{"\u05d0", "(1)", "R EN R"}, {"a", "(1)", "L EN L"}, {"\u05d0", "(\u0301[!]1)\u0301", "R R ON ON ON EN R R"},
		{"", "(\u05d0)", "L R L"}, {"\u05d0", "(a\u05d0)", "L L R L"},
	} {
		start := []rune(x.begin)
		again := []rune(x.again)
		n := (api.MaxPara - len(start)) / len(again)
		l := append(start, slices.Repeat(again, n)...)
		first, now := numbered(l)
		want := append(classesOf([]rune(x.begin)), slices.Repeat(row(x.want), n)...)
		if got, e := resolve.Pairs(l, first, now, 0, api.L); e != api.OK || !slices.Equal(got, want) {
			t.Errorf("%d times %q behind %q is wrong: %d", n, x.again, x.begin, e)
		}
	}
	deep := []rune(strings.Repeat("(", 63) + strings.Repeat(" ", 65409) + "\u05d0" + strings.Repeat(")", 63))
	got, e := resolve.Pairs(deep, classesOf(deep), classesOf(deep), 0, api.R)
	if e != api.OK || len(got) != api.MaxPara || slices.Contains(got[:63], api.ON) || slices.Contains(got[65472:], api.ON) {
		t.Errorf("in one another: %d classes, %d", len(got), e)
	}
}
