package cover_test

import (
	"slices"
	"testing"

	"calamus/api"
	"calamus/bin"
	"calamus/cover"
)

// P6.6: a reader of which not too much is asked tells the same again, also when
// what stands there is wrong.
func TestReadersMemory(t *testing.T) {
	for _, b := range [][]byte{words(1, 2, 5, 9), words(2, 2, 1, 2, 0, 5, 5, 2), words(2, 2, 5, 5, 0, 1, 2, 1), words(1, 2, 9, 5)} {
		r := bin.Open(b)
		l, e := cover.Coverage(r, 0, 10)
		unchanged(t, "Coverage", r, b)
		cover.Coverage(r, 0, 4)
		unchanged(t, "Coverage of fewer", r, b)
		want := slices.Clone(l)
		again, _ := cover.Coverage(r, 0, 10)
		clear(l[:cap(l)])
		if !slices.Equal(again, want) {
			t.Errorf("two answers share their memory: %d", again)
		}
		if more, f := cover.Coverage(r, 0, 10); f != e || !slices.Equal(more, want) {
			t.Errorf("the reader has the answer's memory: %d", more)
		}
	}
	for _, b := range [][]byte{words(1, 1, 2, 3, 4), words(2, 2, 0, 0, 1, 1, 2, 4), words(2, 0), words(1, 1, 1, 5)} {
		r := bin.Open(b)
		l, e := cover.Classes(r, 0, 3)
		unchanged(t, "Classes", r, b)
		cover.Classes(r, 0, 1)
		cover.Classes(r, 0, -1)
		unchanged(t, "Classes of fewer", r, b)
		want := slices.Clone(l)
		again, _ := cover.Classes(r, 0, 3)
		clear(l[:cap(l)])
		if !slices.Equal(again, want) {
			t.Errorf("two answers share their memory: %d", again)
		}
		if more, f := cover.Classes(r, 0, 3); f != e || !slices.Equal(more, want) {
			t.Errorf("the reader has the answer's memory: %d", more)
		}
	}
}

// P6.6: the bytes of lookups that fall stay as they are, and features share no
// memory, those of one place neither.
func TestFeaturesMemory(t *testing.T) {
	b := slices.Concat(words(3), record("aaaa", 20), record("bbbb", 20), record("cccc", 30), words(0, 3, 5, 1, 5), words(0, 1, 2))
	r := bin.Open(b)
	l, _ := cover.Features(r, 0, 6)
	unchanged(t, "Features", r, b)
	cover.Features(r, 0, 5)
	unchanged(t, "Features of fewer", r, b)
	again, _ := cover.Features(r, 0, 6)
	want := []api.Feature{named("aaaa", 1, 5), named("bbbb", 1, 5), named("cccc", 2)}
	for i := range l {
		clear(l[i].Lookups[:cap(l[i].Lookups)])
		for j := i + 1; j < len(l); j++ {
			if !sameFeature(l[j], want[j]) {
				t.Errorf("lists of one answer share their memory: %v", l)
			}
		}
	}
	clear(l[:cap(l)])
	if !slices.EqualFunc(again, want, sameFeature) {
		t.Errorf("two answers share their memory: %v", again)
	}
}

// P6.6: the same of lookups.
func TestLookupsMemory(t *testing.T) {
	b := words(3, 8, 8, 18, 4, 8, 2, 20, 0, 1, 0, 1, 10)
	r := bin.Open(b)
	l, _ := cover.Lookups(r, 0)
	unchanged(t, "Lookups", r, b)
	again, _ := cover.Lookups(r, 0)
	want := []cover.Subtable{{Type: 4, Flag: 8, At: []int{28, 8}}, {Type: 4, Flag: 8, At: []int{28, 8}}, {Type: 1, At: []int{28}}}
	for i := range l {
		clear(l[i].At[:cap(l[i].At)])
		for j := i + 1; j < len(l); j++ {
			if !sameSubtable(l[j], want[j]) {
				t.Errorf("lists of one answer share their memory: %v", l)
			}
		}
	}
	clear(l[:cap(l)])
	if !slices.EqualFunc(again, want, sameSubtable) {
		t.Errorf("two answers share their memory: %v", again)
	}
}

// P6.6: what is put is only read, what lies behind it included.
func TestPutMemory(t *testing.T) {
	glyphs, classes := []uint16{1, 2, 3, 4}, []uint8{1, 1, 2, 3, 9}
	b, _ := cover.PutCoverage(glyphs[:3])
	c, _ := cover.PutClasses(classes[:4])
	moreB, _ := cover.PutCoverage(glyphs[:3])
	moreC, _ := cover.PutClasses(classes[:4])
	if !slices.Equal(glyphs, []uint16{1, 2, 3, 4}) || !slices.Equal(classes, []uint8{1, 1, 2, 3, 9}) {
		t.Errorf("what is handed in is changed: %d %d", glyphs, classes)
	}
	clear(b[:cap(b)])
	clear(c[:cap(c)])
	clear(glyphs)
	clear(classes)
	if !slices.Equal(moreB, words(1, 3, 1, 2, 3)) || !slices.Equal(moreC, words(2, 3, 0, 1, 1, 2, 2, 2, 3, 3, 3)) {
		t.Errorf("it shares its memory: %d %d", moreB, moreC)
	}
}
