package embed_test

import (
	"math/rand"
	"slices"
	"testing"

	"calamus/api"
	"calamus/embed"
)

// P10.2: the chapter's examples, and each row of its table, by hand.
func TestLevelsByHand(t *testing.T) {
	for _, x := range []struct {
		l         string
		base      uint8
		levels    string
		classes   string
		paragraph uint8
	}{
		{"", 0, "", "", 0}, {"", 1, "", "", 1}, {"", 2, "", "", 0},
		// The chapter's.
		{"L RLE L PDF L", 0, "0 0 1 1 0", "L BN L BN L", 0},
		{"L RLI R LRO ON PDI R", 2, "0 0 1 1 2 0 0", "L RLI R BN L PDI R", 0},
		{"R FSI AL PDI L", 2, "1 1 3 1 1", "R FSI AL PDI L", 1},
		{"PDI RLI B RLE L", 0, "0 0 0 0 1", "PDI RLI B BN L", 0},
		// Controls that are removed have the level of what stands ahead.
		{"LRE RLE LRO RLO PDF BN", 1, "1 1 1 1 1 1", "BN BN BN BN BN BN", 1},
		{"RLE R BN LRE BN L PDF PDF BN ON", 0, "0 1 1 1 1 2 2 2 2 0", "BN R BN BN BN L BN BN BN ON", 0},
		{"RLE R PDI BN LRE L", 0, "0 1 1 1 1 2", "BN R PDI BN BN L", 0},
		{"RLI BN R PDI BN", 0, "0 0 1 0 0", "RLI BN R PDI BN", 0},
		{"RLE R B BN L", 1, "1 3 1 1 1", "BN R B BN L", 1},
		// The next level is the least one above, odd or even.
		{"LRE L LRE L RLE R RLE R LRE L", 0, "0 2 2 4 4 5 5 7 7 8", "BN L BN L BN R BN R BN L", 0},
		{"LRI L LRI L RLI R RLI R LRI L", 1, "1 2 2 4 4 5 5 7 7 8", "LRI L LRI L RLI R RLI R LRI L", 1},
		// An override reaches over all but B and what is removed, and ends in isolates.
		{"RLO L R AL EN ES ET AN CS NSM BN S WS ON PDI LRI L PDI PDF L", 0, "0 1 1 1 1 1 1 1 1 1 1 1 1 1 1 1 2 1 1 0", "BN R R R R R R R R R BN R R R R R L R BN L", 0},
		{"LRO R RLI R RLE AL PDI RLO ON B R", 0, "0 2 2 3 3 5 2 2 3 0 0", "BN L L R BN AL L BN R B R", 0},
		{"RLO LRE ON PDF ON PDF ON", 0, "0 0 2 2 1 1 0", "BN BN ON BN R BN ON", 0},
		{"LRO FSI R PDI FSI L PDI", 1, "1 2 3 2 2 4 2", "BN L R L L L L", 1},
		// A PDF takes no isolate, and nothing outside of one.
		{"RLE LRI PDF L PDF PDI R PDF ON", 0, "0 1 1 2 2 1 1 1 0", "BN LRI BN L BN PDI R BN ON", 0},
		{"PDF PDF RLE R PDF PDF RLE R", 0, "0 0 0 1 1 1 1 1", "BN BN BN R BN BN BN R", 0},
		// A PDI takes all up to its isolate, and nothing without one.
		{"RLE PDI R RLI LRE LRO L PDI R PDF ON", 0, "0 1 1 1 1 1 6 1 1 1 0", "BN PDI R RLI BN BN L PDI R BN ON", 0},
		{"RLI LRI PDI PDI PDI L", 0, "0 1 1 0 0 0", "RLI LRI PDI PDI PDI L", 0},
		// An FSI looks up to its PDI, a B, or the end, over isolates.
		{"FSI ON PDI R", 1, "1 2 1 1", "FSI ON PDI R", 1},
		{"FSI ON R", 0, "0 1 1", "FSI ON R", 0},
		{"FSI ON B R", 0, "0 2 0 0", "FSI ON B R", 0},
		{"FSI LRI L PDI AL PDI", 0, "0 1 2 1 1 0", "FSI LRI L PDI AL PDI", 0},
		{"FSI RLI R PDI L PDI", 0, "0 2 3 2 2 0", "FSI RLI R PDI L PDI", 0},
		{"FSI RLI R AL", 0, "0 2 3 3", "FSI RLI R AL", 0},
		{"FSI FSI PDI R PDI", 0, "0 1 1 1 0", "FSI FSI PDI R PDI", 0},
		{"FSI RLE PDF L PDI", 0, "0 0 0 2 0", "FSI BN BN L PDI", 0},
		{"FSI PDI R", 1, "1 1 1", "FSI PDI R", 1},
		// Behind a B all is as at first.
		{"RLE RLI RLO R B R PDF PDI LRE L", 0, "0 1 1 5 0 0 0 0 0 2", "BN RLI BN R B R BN PDI BN L", 0},
		// Base 2: up to the first B, in no isolate.
		{"ON R B L", 2, "1 1 1 1", "ON R B L", 1},
		{"ON B R L", 2, "0 0 0 0", "ON B R L", 0},
		{"LRI L PDI AL", 2, "1 2 1 1", "LRI L PDI AL", 1},
	} {
		levels, classes, paragraph, e := embed.Levels(row(x.l), x.base)
		if e != api.OK || paragraph != x.paragraph || !slices.Equal(levels, numbers(x.levels)) || !slices.Equal(classes, row(x.classes)) {
			t.Errorf("Levels(%s, %d): %d %d %d %d, want %s, %s, %d", x.l, x.base, levels, classes, paragraph, e, x.levels, x.classes, x.paragraph)
		}
	}
}

// P10.2: what is one too deep is counted, by hand: behind what goes so deep, the
// levels of all that is not removed.
func TestLevelsOverflown(t *testing.T) {
	for _, x := range []struct {
		what string
		deep []api.Class
		l    string
		base uint8
		want string
	}{
		{"124 and 125", times(62, "LRE"), "L RLE R RLE R PDF R PDF L", 0, "124 125 125 125 124"},
		{"no embedding of the next even level", times(62, "LRE"), "LRE L RLE R PDF R PDF R RLE R", 0, "124 124 124 124 125"},
		{"nor an isolate", times(62, "LRI"), "LRI L RLI R PDI R PDI R RLI R", 0, "124 124 124 124 124 124 124 124 124 125"},
		{"from the level 1", times(61, "LRE"), "RLE R RLE R PDF PDF RLE R PDF LRE L LRE L PDF L RLE L", 1, "123 125 123 124 124 124 125"},
		{"an isolate in an overflown embedding", times(63, "RLE"), "R RLE RLI R PDF R PDI R PDF R PDF R", 0, "125 125 125 125 125 125 125 123"},
		{"no embedding in an overflown isolate", times(63, "RLE"), "RLI RLE LRO R PDI R PDF R", 0, "125 125 125 125 123"},
		{"an isolate's end forgets embeddings", times(62, "RLE"), "RLI RLE RLE RLE R PDI R PDF R", 0, "123 125 123 123 121"},
		{"overflown isolates end first", times(63, "RLI"), "RLI RLI R PDI R PDI R PDI R PDI R", 0, "125 125 125 125 125 125 125 123 123 121 121"},
		{"nothing overflows over a B", slices.Concat(times(70, "RLE"), times(9, "LRI")), "R B PDF PDI L RLE R PDF L LRI L", 0, "125 0 0 0 1 0 0 2"},
		{"an override that is one too deep", times(63, "RLE"), "RLO L PDF L LRO R", 0, "125 125 125"},
	} {
		l := append(x.deep, row(x.l)...)
		levels, classes, _, e := embed.Levels(l, x.base)
		var told []uint8
		for at, c := range l {
			if !isRemoved(c) && at >= len(x.deep) {
				told = append(told, levels[at])
			}
			if !isRemoved(c) && classes[at] != c {
				t.Errorf("%s: the class at %d is %d", x.what, at, classes[at])
			}
		}
		if e != api.OK || !slices.Equal(told, numbers(x.want)) {
			t.Errorf("%s: %d %d, want %s", x.what, told, e, x.want)
		}
	}
}

// P10.2: every short row of all classes, longer ones of those that count, and
// deep ones, of each base.
func TestLevelsEvery(t *testing.T) {
	each := func(l []api.Class) {
		for base := range uint8(3) {
			sameLevels(t, l, base)
		}
	}
	for n := range 4 {
		everyRow(everyClass(), n, each)
	}
	everyRow(row("R B BN RLE LRO PDF RLI FSI PDI"), 5, each)
	everyRow(row("AL LRE RLO PDF LRI FSI PDI"), 6, each)
	everyRow(row("R RLE PDF RLI PDI"), 7, each)
	someRows(102, 10000, func(_ *rand.Rand, l []api.Class) { each(l) })
}

// P10.2: what is wrong, in the order in which it counts; nothing stands beside it.
func TestLevelsWrong(t *testing.T) {
	long := times(65536, "R")
	for _, x := range []struct {
		what string
		l    []api.Class
		base uint8
		want api.Errno
	}{
		{"just as many", long, 2, api.OK},
		{"one more", append(long, api.R), 2, api.ErrLimit},
		{"one more, of no class", append(long, 0), 0, api.ErrLimit},
		{"one more, of no base", append(long, api.R), 3, api.ErrLimit},
		{"many more", times(1<<20, "B"), 255, api.ErrLimit},
		{"just as many, of no base", long, 3, api.ErrArg},
		{"just as many, the last one none", append(long[:65535:65535], 24), 2, api.ErrArg},
		{"class 0", []api.Class{1, 0, 1}, 0, api.ErrArg},
		{"class 0, the first", []api.Class{0}, 1, api.ErrArg},
		{"class 24", []api.Class{1, 1, 24}, 2, api.ErrArg},
		{"class 255", []api.Class{255, 1}, 0, api.ErrArg},
		{"class 128", []api.Class{128}, 0, api.ErrArg},
		{"base 3", row("L"), 3, api.ErrArg},
		{"base 255", row("L"), 255, api.ErrArg},
		{"nothing, of no base", nil, 3, api.ErrArg},
		{"both", []api.Class{24}, 4, api.ErrArg},
	} {
		levels, classes, paragraph, e := embed.Levels(x.l, x.base)
		if e != x.want {
			t.Errorf("%s: %d, want %d", x.what, e, x.want)
		}
		if e != api.OK && (len(levels) > 0 || len(classes) > 0 || paragraph != 0) {
			t.Errorf("%s: %d %d %d beside an error", x.what, levels, classes, paragraph)
		}
	}
	for c := range 256 {
		_, _, _, e := embed.Levels([]api.Class{api.L, api.Class(c)}, 0)
		if (e == api.OK) != (c >= 1 && c <= 23) {
			t.Errorf("class %d: %d", c, e)
		}
	}
}

// P10.2: paragraphs as long as may be, as deep as they go.
func TestLevelsLong(t *testing.T) {
	const n = 32767
	for _, begin := range []string{"FSI", "RLI", "LRI"} {
		l := slices.Concat(times(n, begin), row("AL"), times(n, "PDI"), row("R"))
		levels, classes, paragraph, e := embed.Levels(l, 2)
		if e != api.OK || paragraph != 1 || !slices.Equal(classes, l) {
			t.Fatalf("%s: %d %d", begin, paragraph, e)
		}
		for at := range n {
			if levels[at] != levels[2*n-at] {
				t.Fatalf("%s: %d and %d at %d", begin, levels[at], levels[2*n-at], at)
			}
		}
		if levels[0] != 1 || levels[2*n+1] != 1 || levels[n] < 124 || levels[n] > 125 {
			t.Errorf("%s: %d %d %d", begin, levels[0], levels[n], levels[2*n+1])
		}
	}
	open := times(65536, "FSI")
	if levels, _, _, e := embed.Levels(open, 0); e != api.OK || levels[1] != 2 || levels[65535] != 124 {
		t.Error("isolates without an end")
	}
}
