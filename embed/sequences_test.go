package embed_test

import (
	"math/rand"
	"slices"
	"testing"

	"calamus/api"
	"calamus/embed"
)

// seq tells a sequence.
func seq(level uint8, sos, eos api.Class, places ...int) embed.Seq {
	return embed.Seq{Places: places, Level: level, Sos: sos, Eos: eos}
}

// P10.4: the chapter's examples, and others, by hand.
func TestSequencesByHand(t *testing.T) {
	for _, x := range []struct {
		l, levels string
		base      uint8
		want      []embed.Seq
	}{
		{"", "", 0, nil},
		// The chapter's.
		{"L RLE R PDF L", "0 0 1 1 0", 0, []embed.Seq{seq(0, api.L, api.R, 0), seq(1, api.R, api.R, 2), seq(0, api.R, api.L, 4)}},
		{"L RLI R PDI L", "0 0 1 0 0", 0, []embed.Seq{seq(0, api.L, api.L, 0, 1, 3, 4), seq(1, api.R, api.R, 2)}},
		{"RLI R", "0 1", 0, []embed.Seq{seq(0, api.L, api.L, 0), seq(1, api.R, api.R, 1)}},
		// The paragraph's level, at both ends, whatever it is.
		{"L", "0", 0, []embed.Seq{seq(0, api.L, api.L, 0)}},
		{"L", "0", 1, []embed.Seq{seq(0, api.R, api.R, 0)}},
		{"L", "0", 2, []embed.Seq{seq(0, api.L, api.L, 0)}},
		{"L", "2", 3, []embed.Seq{seq(2, api.R, api.R, 0)}},
		{"L", "7", 255, []embed.Seq{seq(7, api.R, api.R, 0)}},
		{"L R", "255 254", 0, []embed.Seq{seq(255, api.R, api.R, 0), seq(254, api.R, api.L, 1)}},
		// What is removed is no place, wherever it stands.
		{"LRE RLE LRO RLO PDF BN", "1 2 3 4 5 6", 0, nil},
		{"BN L BN L BN", "9 0 9 0 9", 1, []embed.Seq{seq(0, api.R, api.R, 1, 3)}},
		{"BN R BN L BN", "4 1 4 2 4", 0, []embed.Seq{seq(1, api.R, api.L, 1), seq(2, api.L, api.L, 3)}},
		{"L RLE R PDF RLE R PDF L", "0 0 1 1 1 1 1 0", 0, []embed.Seq{seq(0, api.L, api.R, 0), seq(1, api.R, api.R, 2, 5), seq(0, api.R, api.L, 7)}},
		// Isolates beside each other, and in one another.
		{"L RLI R PDI RLI R PDI L", "0 0 1 0 0 1 0 0", 0, []embed.Seq{seq(0, api.L, api.L, 0, 1, 3, 4, 6, 7), seq(1, api.R, api.R, 2), seq(1, api.R, api.R, 5)}},
		{"L RLI R LRI L RLE R PDF L PDI R PDI L", "0 0 1 1 2 2 3 3 2 1 1 0 0", 0, []embed.Seq{
			seq(0, api.L, api.L, 0, 1, 11, 12), seq(1, api.R, api.R, 2, 3, 9, 10), seq(2, api.L, api.R, 4), seq(3, api.R, api.R, 6), seq(2, api.R, api.L, 8)}},
		{"RLI BN R BN PDI", "0 0 1 1 0", 0, []embed.Seq{seq(0, api.L, api.L, 0, 4), seq(1, api.R, api.R, 2)}},
		// An initiator whose PDI stands in its run, or begins none, leads to none.
		{"LRI PDI L", "0 0 0", 0, []embed.Seq{seq(0, api.L, api.L, 0, 1, 2)}},
		{"RLI R L PDI", "0 1 0 0", 0, []embed.Seq{seq(0, api.L, api.R, 0), seq(1, api.R, api.R, 1), seq(0, api.R, api.L, 2, 3)}},
		{"RLI L R PDI", "0 0 1 0", 0, []embed.Seq{seq(0, api.L, api.R, 0, 1), seq(1, api.R, api.R, 2), seq(0, api.R, api.L, 3)}},
		{"RLI L R PDI L", "0 1 2 2 0", 0, []embed.Seq{seq(0, api.L, api.R, 0), seq(1, api.R, api.L, 1), seq(2, api.L, api.L, 2, 3), seq(0, api.L, api.L, 4)}},
		// One that leads to a run of another level: Level is that of the first
		// place, eos of the last one.
		{"LRI L PDI", "0 1 4", 7, []embed.Seq{seq(0, api.R, api.R, 0, 2), seq(1, api.R, api.L, 1)}},
		{"LRI L PDI L", "2 1 3 4", 0, []embed.Seq{seq(2, api.L, api.L, 0, 2), seq(1, api.L, api.R, 1), seq(4, api.L, api.L, 3)}},
		// Without a PDI the eos is the paragraph's.
		{"L RLI B L", "0 0 1 0", 0, []embed.Seq{seq(0, api.L, api.L, 0, 1), seq(1, api.R, api.R, 2), seq(0, api.R, api.L, 3)}},
		{"LRI R", "1 2", 0, []embed.Seq{seq(1, api.R, api.R, 0), seq(2, api.L, api.L, 1)}},
		{"FSI R", "0 3", 2, []embed.Seq{seq(0, api.L, api.L, 0), seq(3, api.R, api.R, 1)}},
		{"PDI R", "0 1", 0, []embed.Seq{seq(0, api.L, api.R, 0), seq(1, api.R, api.R, 1)}},
		// A B ends no run, but what is matched.
		{"L B L", "0 0 0", 0, []embed.Seq{seq(0, api.L, api.L, 0, 1, 2)}},
		{"RLI R B PDI", "0 1 0 0", 0, []embed.Seq{seq(0, api.L, api.L, 0), seq(1, api.R, api.R, 1), seq(0, api.R, api.L, 2, 3)}},
	} {
		all, e := embed.Sequences(row(x.l), numbers(x.levels), x.base)
		if e != api.OK || !slices.EqualFunc(all, x.want, sameSeq) {
			t.Errorf("Sequences(%s, %s, %d): %d %d, want %d", x.l, x.levels, x.base, all, e, x.want)
		}
	}
}

// P10.4: of the levels that Levels tells.
func TestSequencesOfLevels(t *testing.T) {
	each := func(l []api.Class) {
		for base := range uint8(3) {
			levels, _, paragraph, _ := embed.Levels(l, base)
			sameSequences(t, l, levels, paragraph)
		}
	}
	for n := range 4 {
		everyRow(everyClass(), n, each)
	}
	everyRow(row("R B RLE LRO PDF RLI FSI PDI"), 5, each)
	everyRow(row("R LRE PDF RLI PDI"), 7, each)
	someRows(104, 5000, func(_ *rand.Rand, l []api.Class) { each(l) })
}

// P10.4: of any levels, any base, and of what is no class.
func TestSequencesOfAnyLevels(t *testing.T) {
	everyRow(row("R BN RLI PDI"), 4, func(l []api.Class) {
		for n := range 81 {
			levels := []uint8{uint8(n % 3), uint8(n / 3 % 3), uint8(n / 9 % 3), uint8(n / 27)}
			sameSequences(t, l, levels, uint8(n%2))
		}
	})
	someRows(114, 10000, func(r *rand.Rand, l []api.Class) {
		levels := make([]uint8, len(l))
		span := []int{1, 2, 3, 126, 256}[r.Intn(5)]
		for at := range levels {
			levels[at] = uint8(r.Intn(span))
			if at > 0 && r.Intn(2) == 0 {
				levels[at] = levels[at-1]
			}
			if r.Intn(30) == 0 {
				l[at] = []api.Class{0, 24, 42, 255}[r.Intn(4)]
			}
		}
		sameSequences(t, l, levels, uint8(r.Intn(span)))
	})
}

// P10.4: what is wrong, in the order in which it counts; nothing stands beside it.
func TestSequencesWrong(t *testing.T) {
	long, levels := times(65537, "R"), make([]uint8, 65537)
	for _, x := range []struct {
		what   string
		l      []api.Class
		levels []uint8
		want   api.Errno
	}{
		{"just as many", long[1:], levels[1:], api.OK},
		{"one more", long, levels, api.ErrLimit},
		{"one more, fewer levels", long, levels[1:], api.ErrLimit},
		{"one more, no levels", long, nil, api.ErrLimit},
		{"just as many, more levels", long[1:], levels, api.ErrArg},
		{"just as many, fewer levels", long[1:], levels[2:], api.ErrArg},
		{"no levels", long[:1], nil, api.ErrArg},
		{"no classes", nil, levels[:1], api.ErrArg},
		{"no classes, too many levels", nil, levels, api.ErrArg},
		{"one of two", long[:2], levels[:1], api.ErrArg},
		{"nothing", nil, nil, api.OK},
		{"nothing, told otherwise", long[:0], levels[:0], api.OK},
	} {
		all, e := embed.Sequences(x.l, x.levels, 0)
		if e != x.want {
			t.Errorf("%s: %d, want %d", x.what, e, x.want)
		}
		if (e != api.OK || len(x.l) == 0) && len(all) > 0 {
			t.Errorf("%s: %d beside it", x.what, all)
		}
	}
}

// P10.4: as many sequences as may be, and as long ones.
func TestSequencesLong(t *testing.T) {
	const n = 65536
	l, levels := times(n, "R"), make([]uint8, n)
	for at := range levels {
		levels[at] = uint8(at % 2)
	}
	all, e := embed.Sequences(l, levels, 0)
	if e != api.OK || len(all) != n {
		t.Fatalf("%d sequences, %d", len(all), e)
	}
	for at, s := range all {
		if !slices.Equal(s.Places, []int{at}) || s.Level != levels[at] || s.Sos != greater(s.Level, uint8(min(at, 1))) || s.Eos != greater(s.Level, uint8(min(n-1-at, 1))) {
			t.Fatalf("%d: %d", at, s)
		}
	}
	isolates := times(n/4, "RLI R PDI L")
	levels, _, _, _ = embed.Levels(isolates, 0)
	all, e = embed.Sequences(isolates, levels, 0)
	if e != api.OK || len(all) != n/4+1 || len(all[0].Places) != 3*n/4 {
		t.Errorf("%d sequences, %d", len(all), e)
	}
}
