package embed_test

import (
	"math/rand"
	"reflect"
	"slices"
	"testing"

	"calamus/api"
	"calamus/embed"
)

// apart: does no byte of memory belong to two of these lists, what lies behind
// their lengths included?
func apart(lists ...any) bool {
	type memory struct{ from, to uintptr }
	var all []memory
	for _, list := range lists {
		v := reflect.ValueOf(list)
		if size := uintptr(v.Cap()) * v.Type().Elem().Size(); size > 0 {
			all = append(all, memory{v.Pointer(), v.Pointer() + size})
		}
	}
	slices.SortFunc(all, func(a, b memory) int {
		if a.from < b.from {
			return -1
		}
		return 1
	})
	for i := 1; i < len(all); i++ {
		if all[i].from < all[i-1].to {
			return false
		}
	}
	return true
}

// withBehind tells a copy of classes, and of it together with more behind it.
func withBehind[T any](l []T, more ...T) (handed, under []T) {
	under = append(slices.Clone(l), more...)
	return under[:len(l)], under
}

// P10.3: classes are only read, those behind them included, and not kept; two
// answers have no memory together.
func TestLevelsMemory(t *testing.T) {
	someRows(103, 2000, func(r *rand.Rand, l []api.Class) {
		handed, under := withBehind(l, row("R RLI PDI B FSI")...)
		before := slices.Clone(under)
		base := uint8(r.Intn(3))
		want, wanted, _ := levelsByWords(l, base)
		pairs, same := embed.Match(handed), embed.Match(handed)
		levels, classes, _, _ := embed.Levels(handed, base)
		again, others, _, _ := embed.Levels(handed, base)
		embed.Base(handed)
		if !slices.Equal(under, before) {
			t.Fatalf("what is handed in is changed: %d, was %d", under, before)
		}
		if !apart(under, pairs, same, levels, classes, again, others) {
			t.Fatalf("of %d some share their memory", l)
		}
		clear(under)
		clear(pairs[:cap(pairs)])
		clear(levels[:cap(levels)])
		clear(classes[:cap(classes)])
		if !slices.Equal(same, matchByWords(l)) || !slices.Equal(again, want) || !slices.Equal(others, wanted) {
			t.Fatalf("%d: %d %d %d behind the change", l, same, again, others)
		}
	})
}

// P10.5: so it is of Sequences; nor has one answer of it memory twice.
func TestSequencesMemory(t *testing.T) {
	someRows(105, 2000, func(r *rand.Rand, l []api.Class) {
		of, _, base, _ := embed.Levels(l, uint8(r.Intn(3)))
		handed, under := withBehind(l, row("R RLI PDI B FSI")...)
		levels, beneath := withBehind(of, 1, 2, 1, 0)
		before, were := slices.Clone(under), slices.Clone(beneath)
		all, _ := embed.Sequences(handed, levels, base)
		again, _ := embed.Sequences(handed, levels, base)
		if !slices.Equal(under, before) || !slices.Equal(beneath, were) {
			t.Fatalf("what is handed in is changed: %d %d, was %d %d", under, beneath, before, were)
		}
		lists := []any{under, beneath, all, again}
		for _, s := range slices.Concat(all, again) {
			lists = append(lists, s.Places)
		}
		if !apart(lists...) {
			t.Fatalf("of %d, %d some share their memory", l, of)
		}
		for _, s := range all {
			clear(s.Places[:cap(s.Places)])
		}
		clear(all)
		clear(under)
		clear(beneath)
		if want := sequencesByWords(l, of, base); !slices.EqualFunc(again, want, sameSeq) {
			t.Fatalf("%d, %d: %d behind the change, want %d", l, of, again, want)
		}
	})
}

// P10.3, P10.5: what is wrong is only read, too.
func TestWrongMemory(t *testing.T) {
	l, under := withBehind([]api.Class{1, 22, 2, 24, 0, 255}, 1, 2, 3)
	before := slices.Clone(under)
	levels, beneath := withBehind([]uint8{1, 2, 3}, 4, 5, 6)
	were := slices.Clone(beneath)
	if _, _, _, e := embed.Levels(l, 2); e != api.ErrArg {
		t.Error(e)
	}
	if _, e := embed.Sequences(l, levels, 2); e != api.ErrArg {
		t.Error(e)
	}
	if !slices.Equal(under, before) || !slices.Equal(beneath, were) {
		t.Errorf("what is handed in is changed: %d %d", under, beneath)
	}
}
