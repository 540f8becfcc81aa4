package font_test

import (
	"reflect"
	"slices"
	"testing"

	"calamus/api"
	"calamus/font"
)

// listsOf tells all lists within an answer.
func listsOf(v reflect.Value) []reflect.Value {
	var l []reflect.Value
	switch v.Kind() {
	case reflect.Struct:
		for i := range v.NumField() {
			l = append(l, listsOf(v.Field(i))...)
		}
	case reflect.Slice:
		l = append(l, v)
		for i := range v.Len() {
			l = append(l, listsOf(v.Index(i))...)
		}
	}
	return l
}

// apart: does no byte of memory belong to two of these lists, what lies behind
// their lengths included?
func apart(l []reflect.Value) bool {
	type memory struct{ from, to uintptr }
	var all []memory
	for _, v := range l {
		if size := uintptr(v.Cap()) * v.Type().Elem().Size(); size > 0 {
			all = append(all, memory{v.Pointer(), v.Pointer() + size})
		}
	}
	slices.SortFunc(all, func(a, b memory) int {
		if a.from < b.from {
			return -1
		}
		return 1
	})
	for i := 1; i < len(all); i++ {
		if all[i].from < all[i-1].to {
			return false
		}
	}
	return true
}

// clearList puts noughts into a list, and behind it.
func clearList(v reflect.Value) {
	v = v.Slice(0, v.Cap())
	for i := range v.Len() {
		v.Index(i).SetZero()
	}
}

// P9.3: the bytes are only read, those behind them included, and not kept; two
// answers have no memory together, nor has one of them within itself.
func TestReadMemory(t *testing.T) {
	for _, p := range []parts{whole(), plain()} {
		want, _ := wanted(p)
		file := p.bytes()
		under := append(slices.Clone(file), 1, 2, 3, 4, 5, 6, 7, 8)
		before := slices.Clone(under)
		f, _ := font.Read(under[:len(file)])
		again, _ := font.Read(under[:len(file)])
		if !slices.Equal(under, before) {
			t.Errorf("what is handed in is changed: %d", under)
		}
		lists := append(listsOf(reflect.ValueOf(f)), listsOf(reflect.ValueOf(again))...)
		if len(lists) < 14 || !apart(append(lists, reflect.ValueOf(under))) {
			t.Errorf("of %d lists some share their memory", len(lists))
		}
		for _, v := range listsOf(reflect.ValueOf(f)) {
			clearList(v)
		}
		if !slices.Equal(under, before) || !same(again, want) {
			t.Errorf("an answer shares its memory: %s", told(again))
		}
		clear(under)
		if !same(again, want) {
			t.Errorf("the bytes are kept: %s", told(again))
		}
		isThat(t, "once more", file, want, true)
	}
}

// P9.3: what is wrong is only read, too.
func TestWrongMemory(t *testing.T) {
	for _, name := range append(needed(), allowed()...) {
		b := whole().with(name, []byte{1, 2, 3}).bytes()
		under := append(slices.Clone(b), 9, 8, 7)
		before := slices.Clone(under)
		if _, e := font.Read(under[:len(b)]); e != api.ErrFont || !slices.Equal(under, before) {
			t.Errorf("%s: %d, %d", name, e, under)
		}
	}
}

// P9.3: Glyph, Class and Advance only read the font.
func TestAskMemory(t *testing.T) {
	f := wholeFont()
	f.Maps = append(f.Maps, api.Map{Rune: 1, Glyph: 2}, api.Map{Rune: 70, Glyph: 9})
	f.Advances, f.Classes = append(f.Advances, 7)[:10], append(f.Classes, 7)[:10]
	f.Maps = f.Maps[:7]
	want := told(f)
	for n := range 100 {
		font.Glyph(f, rune(n))
		font.Class(f, uint16(n))
		font.Advance(f, uint16(n))
	}
	if told(f) != want || f.Maps[:8][7] != (api.Map{Rune: 70, Glyph: 9}) || f.Advances[:11][10] != 7 || f.Classes[:11][10] != 7 {
		t.Errorf("the font is changed: %s", told(f))
	}
}
