package gpos_test

import (
	"math/rand"
	"reflect"
	"slices"
	"testing"

	"calamus/api"
	"calamus/bin"
	"calamus/gpos"
)

// listsOf tells all lists within an answer, and itself.
func listsOf(v reflect.Value) []reflect.Value {
	var l []reflect.Value
	switch v.Kind() {
	case reflect.Struct:
		for i := range v.NumField() {
			l = append(l, listsOf(v.Field(i))...)
		}
	case reflect.Slice:
		l = append(l, v)
		for i := range v.Len() {
			l = append(l, listsOf(v.Index(i))...)
		}
	}
	return l
}

// bothLists tells all lists of an answer.
func bothLists(lookups []api.Lookup, features []api.Feature) []reflect.Value {
	return append(listsOf(reflect.ValueOf(lookups)), listsOf(reflect.ValueOf(features))...)
}

// apart: does no byte of memory belong to two of these lists, what lies behind
// their lengths included?
func apart(l []reflect.Value) bool {
	type memory struct{ from, to uintptr }
	var all []memory
	for _, v := range l {
		if size := uintptr(v.Cap()) * v.Type().Elem().Size(); size > 0 {
			all = append(all, memory{v.Pointer(), v.Pointer() + size})
		}
	}
	slices.SortFunc(all, func(a, b memory) int {
		if a.from < b.from {
			return -1
		}
		return 1
	})
	for i := 1; i < len(all); i++ {
		if all[i].from < all[i-1].to {
			return false
		}
	}
	return true
}

// sharing tells a table whose subtables, rows, points, coverages and features
// stand in one place each.
func sharing() []byte {
	pairs := join(block{2, 0, 2, 10, 10}, block{1, 14, 4, 0, 2, 22, 22, 1, 2, 4, 5, 1, 6, 7})
	points := join(block{4, 0, 2, 10, 10}, block{1, 12, 12, 2, 20, 30, 1, 2, 4, 5, 2, 0, 20, 1, 20, 2, 10, 10, 0, 10, 1, 3, 65535})
	features := block{2, 1, 2, 14, 3, 4, 14, 0, 3, 2, 0, 1}
	return block{1, 0, 0, features, row(pairs, points, points, pairs)}.bytes()
}

// P8.2: lists of answers share no memory, with another answer or within one,
// though the bytes do.
func TestMemory(t *testing.T) {
	for i, b := range [][]byte{sharing(), everyType().bytes()} {
		whole := slices.Clone(b)
		r := bin.Open(b)
		l, features, e := gpos.Parse(r, 10)
		again, named, f := gpos.Parse(r, 10)
		if e != api.OK || f != api.OK || r.Bad() || !slices.Equal(r.Bytes(), whole) {
			t.Fatalf("%d: %d %d, bad: %t", i, e, f, r.Bad())
		}
		lists := append(bothLists(l, features), bothLists(again, named)...)
		if len(lists) < 30 || !apart(lists) {
			t.Errorf("%d: of %d lists some share their memory", i, len(lists))
		}
		want, wanted, _ := byWords(whole, 10)
		for _, v := range bothLists(l, features) {
			clearList(v)
		}
		if !slices.EqualFunc(again, want, sameAnswer) || !slices.EqualFunc(named, wanted, sameFeature) {
			t.Errorf("%d: two answers share their memory: %v %v", i, again, named)
		}
		more, names, _ := gpos.Parse(r, 10)
		if !slices.EqualFunc(more, want, sameAnswer) || !slices.EqualFunc(names, wanted, sameFeature) {
			t.Errorf("%d: the reader has the answer's memory: %v %v", i, more, names)
		}
	}
}

// clearList puts noughts into a list, and behind it.
func clearList(v reflect.Value) {
	v = v.Slice(0, v.Cap())
	for i := range v.Len() {
		v.Index(i).SetZero()
	}
}

// P8.2: a reader of which not too much is asked stays as it is, also when what
// stands there is wrong.
func TestReaderStays(t *testing.T) {
	for _, glyphs := range []int{-1, 0, 3, 6, 7, 9} {
		b := everyType().bytes()
		r := bin.Open(b)
		if l, _, e := gpos.Parse(r, glyphs); e != api.ErrFont || l != nil || r.Bad() || !slices.Equal(r.Bytes(), b) {
			t.Errorf("%d glyphs: %d, bad: %t", glyphs, e, r.Bad())
		}
		if l, _, e := gpos.Parse(r, 10); e != api.OK || len(l) != 4 {
			t.Errorf("asked again: %v %d", l, e)
		}
	}
}

// P8.1, P8.2: what is answered hangs on the bytes alone.
func TestSameAgain(t *testing.T) {
	r := rand.New(rand.NewSource(82))
	for range 500 {
		b := anyTable(r).bytes()
		b[r.Intn(len(b))] += byte(r.Intn(3))
		l, features, e := gpos.Parse(bin.Open(b), 12)
		again, named, f := gpos.Parse(bin.Open(b), 12)
		if e != f || !reflect.DeepEqual(l, again) || !reflect.DeepEqual(features, named) {
			t.Fatalf("%d: %v %v %d, then %v %v %d", b, l, features, e, again, named, f)
		}
	}
}
