package bidi_test

import (
	"math/rand"
	"slices"
	"testing"

	"calamus/api"
	"calamus/bidi"
)

// P12.1: the chapter's examples, and the rules one by one, by hand.
func TestLevelsByHand(t *testing.T) {
	for _, x := range []struct {
		l         string
		base      uint8
		levels    string
		paragraph uint8
	}{
		{"", 0, "", 0}, {"", 1, "", 1}, {"", 2, "", 0},
		// The chapter's.
		{"a b R WS R EN", 0, "0 0 1 1 1 2", 0},
		{"R WS L ( R )", 2, "1 1 2 1 1 1", 1},
		{"L RLI R L PDI R", 0, "0 0 1 2 0 1", 0},
		{"EN ES EN AL EN", 2, "2 2 2 1 2", 1},
		{"L RLO L PDF L", 0, "0 0 1 1 0", 0},
		// The paragraph's level: by what stands in no isolate, up to the first B.
		{"ON EN", 2, "0 0", 0}, {"EN", 1, "2", 1}, {"L", 1, "2", 1}, {"R", 0, "1", 0}, {"AL", 2, "1", 1},
		{"RLI L PDI R", 2, "1 4 1 1", 1}, {"RLI L", 2, "0 2", 0}, {"ON B R", 2, "0 0 1", 0}, {"R B L", 2, "1 1 2", 1},
		// Explicit levels; what is removed is as what stands ahead, behind all else.
		{"LRE R PDF", 1, "1 3 3", 1}, {"RLE L PDF", 0, "0 2 2", 0}, {"LRO R PDF R", 0, "0 2 2 1", 0},
		{"RLO EN AN PDF EN", 0, "0 1 1 1 2", 0}, {"BN L BN", 1, "1 2 2", 1}, {"L BN R BN L", 0, "0 0 1 1 0", 0},
		{"PDF L PDI R", 0, "0 0 0 1", 0}, {"R PDF BN LRE EN BN", 0, "1 1 1 1 2 2", 0}, {"BN RLE BN", 1, "1 1 1", 1},
		{"R LRE", 1, "1 1", 1}, {"L LRE BN R", 1, "2 2 2 3", 1},
		// Where sequences begin and end; the paragraph's level is none of base 2.
		{"ON EN R", 2, "1 2 1", 1}, {"R RLI R", 0, "1 0 1", 0}, {"RLI R PDI", 0, "0 1 0", 0}, {"R RLI L PDI R", 0, "1 1 2 1 1", 0},
		{"RLE R PDF ON RLE R PDF", 0, "0 1 1 1 1 1 1", 0}, {"RLE R PDF ON", 0, "0 1 1 0", 0}, {"ON RLE R PDF", 0, "0 0 1 1", 0},
		{"LRE L PDF ON LRE L PDF", 1, "1 2 2 2 2 2 2", 1},
		// Weak ones, over isolates too.
		{"AL EN", 0, "1 2", 0}, {"AL ON EN", 0, "1 1 2", 0}, {"R EN", 0, "1 2", 0}, {"L EN", 0, "0 0", 0}, {"R L EN", 0, "1 0 0", 0},
		{"AL EN CS EN", 0, "1 2 2 2", 0}, {"AL EN ES EN", 0, "1 2 1 2", 0}, {"R EN ES EN", 0, "1 2 2 2", 0},
		{"R EN ET", 0, "1 2 2", 0}, {"R ET EN", 0, "1 2 2", 0}, {"R ET AN", 0, "1 1 2", 0}, {"R NSM", 0, "1 1", 0}, {"NSM", 1, "1", 1},
		{"RLI NSM PDI NSM", 0, "0 1 0 0", 0}, {"AL LRI L PDI EN", 0, "1 1 2 1 2", 0}, {"R EN BN CS BN EN", 0, "1 2 2 2 2 2", 0},
		// Brackets, over isolates too, and not from level to level; marks behind them.
		{"L ( R ) L", 1, "2 1 1 1 2", 1}, {"R ( L ) NSM", 1, "1 1 2 1 1", 1}, {"L ( L ) NSM", 1, "2 2 2 2 2", 1},
		{"R ( R ) NSM ON L", 0, "1 1 1 1 1 0 0", 0}, {"R ( L R ) L", 0, "1 0 0 1 0 0", 0}, {"L ( RLI R PDI L ) R", 1, "2 2 2 3 2 2 2 1", 1},
		{"L ( RLE L ) PDF", 1, "2 1 1 4 3 3", 1}, {"L \u2329 L \u3009 R", 1, "2 2 2 2 1", 1}, {"L ( L ] R", 1, "2 2 2 1 1", 1},
		// What is overridden is neither a bracket nor a mark.
		{"RLE L ( L ) NSM PDF RLO NSM PDF", 0, "0 2 2 2 2 2 2 2 1 1", 0}, {"RLE L ( L ) PDF RLO NSM PDF", 0, "0 2 2 2 2 2 2 1 1", 0},
		{"LRE R PDF LRO ( PDF LRE R ) R PDF", 0, "0 3 3 3 2 2 2 3 3 3 3", 0}, {"LRE R LRO ( PDF PDF LRE ( R ) PDF", 0, "0 3 3 4 4 4 4 2 3 2 2", 0}, {"RLO ( L ) NSM PDF", 0, "0 1 1 1 1 1", 0},
		// Neutral ones, and the levels.
		{"R ON L", 0, "1 0 0", 0}, {"R ON L", 1, "1 1 2", 1}, {"L ON S WS L", 1, "2 2 2 2 2", 1}, {"R B R", 0, "1 1 1", 0},
		{"LRE R EN AN L PDF", 0, "0 3 4 4 2 2", 0}, {"RLE R EN AN L PDF", 0, "0 1 2 2 2 2", 0}, {"LRE EN PDF", 0, "0 2 2", 0},
	} {
		levels, paragraph, e := bidi.Levels(text(x.l), x.base)
		if e != api.OK || paragraph != x.paragraph || !slices.Equal(levels, numbers(x.levels)) {
			t.Errorf("Levels(%s, %d): %d %d %d, want %s, %d", x.l, x.base, levels, paragraph, e, x.levels, x.paragraph)
		}
	}
}

// P12.1: every short text of all classes, longer ones of those that count, and
// long and deep ones, of each base.
func TestLevelsEvery(t *testing.T) {
	each := func(l []rune) {
		for base := range uint8(3) {
			same(t, l, base)
		}
	}
	for n := range 4 {
		everyText(everyKind, n, each)
	}
	everyText(text("L R EN ( ) NSM"), 5, each)
	everyText(text("L R ON RLE RLO PDF"), 5, each)
	everyText(text("R ON BN RLI FSI PDI B"), 5, each)
	someTexts(121, 20000, func(_ *rand.Rand, l []rune) { each(l) })
}

// P12.1: texts of characters of all kinds, not one for each class alone.
func TestLevelsOfKinds(t *testing.T) {
	var all []rune
	for _, name := range classNames[1:] {
		all = append(all, kinds[name]...)
	}
	all = append(all, []rune("()[]{}\u2045\u2046\u2329\u232a\u27e6\u27e7\u3008\u3009")...)
	r := rand.New(rand.NewSource(131))
	for range 10000 {
		l := anyText(r, 40, all)
		same(t, l, uint8(r.Intn(3)))
	}
	for c := rune(-3); c < 0x11003; c++ {
		same(t, []rune{0x5d0, '(', c, ')', c}, uint8(c&1))
	}
}

// P12.1: what is wrong, in the order in which it counts; nothing stands beside it.
func TestLevelsWrong(t *testing.T) {
	long := times(65536, "R")
	for _, x := range []struct {
		what string
		l    []rune
		base uint8
		want api.Errno
	}{
		{"just as many", long, 2, api.OK},
		{"one more", append(long, 'a'), 2, api.ErrLimit},
		{"one more, of no base", append(long, 'a'), 3, api.ErrLimit},
		{"many more", times(1<<20, "B"), 0, api.ErrLimit},
		{"just as many, of no base", long, 3, api.ErrArg},
		{"base 3", text("L"), 3, api.ErrArg},
		{"base 4", text("R L"), 4, api.ErrArg},
		{"base 255", text("R RLI L PDI"), 255, api.ErrArg},
		{"nothing, of no base", nil, 3, api.ErrArg},
		{"nothing, told otherwise, of no base", []rune{}, 128, api.ErrArg},
		{"nothing", nil, 1, api.OK},
		{"no characters of Unicode's", []rune{-1, -0x80000000, 0x110000, 0x7fffffff}, 2, api.OK},
	} {
		levels, paragraph, e := bidi.Levels(x.l, x.base)
		if e != x.want {
			t.Errorf("%s: %d, want %d", x.what, e, x.want)
		}
		if e != api.OK && (len(levels) > 0 || paragraph != 0) {
			t.Errorf("%s: %d %d beside an error", x.what, levels, paragraph)
		}
		if e == api.OK && len(levels) != len(x.l) {
			t.Errorf("%s: %d levels", x.what, len(levels))
		}
	}
}

// P12.1: paragraphs as long as may be, of one sequence, of many, of deep ones.
func TestLevelsLong(t *testing.T) {
	for _, l := range [][]rune{
		times(65536, "L"), times(65536, "RLI"), times(65536, "NSM"), times(65536, "B"), times(65536, "BN"), times(65536, "ET"),
		times(65536, "("), times(32768, "( )"), times(16384, "R ( R )"), times(16384, "RLI R PDI L"), times(16384, "RLE R PDF L"),
		times(16384, "LRE ON PDF EN"), times(8192, "RLI R ( LRI EN PDI ) NSM"), times(9362, "FSI AL ON PDI RLO L PDF"),
		slices.Concat(times(32768, "RLI"), times(32768, "PDI")), slices.Concat(times(32768, "LRE"), times(32768, "PDF")),
		slices.Concat(times(32768, "("), times(32768, ")")), slices.Concat(times(62, "("), times(30000, "R ON"), times(62, ")")),
		slices.Concat(times(30, "RLI ("), times(10000, "EN ( R ) NSM"), times(30, ") PDI")),
	} {
		same(t, l, 2)
		same(t, l, 1)
	}
}
