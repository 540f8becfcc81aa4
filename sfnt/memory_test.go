package sfnt_test

import (
	"slices"
	"testing"

	"calamus/api"
	"calamus/bin"
	"calamus/sfnt"
)

// P5.6: Join only reads tags and bodies, what lies behind them included, and
// answers new memory.
func TestJoinMemory(t *testing.T) {
	tags := []api.Tag{tag("head"), tag("x"), tag("y")}
	under := []byte{1, 2, 3, 4, 5, 6, 7, 8, 9, 10, 11, 12, 13, 14, 15}
	bodies := [][]byte{under[:13], under[1:2], under[5:]}
	names, bytes := slices.Clone(tags), slices.Clone(under)
	b, _ := sfnt.Join(tags[:2], bodies[:2])
	again, _ := sfnt.Join(tags[:2], bodies[:2])
	want := slices.Clone(b)
	clear(b[:cap(b)])
	if !slices.Equal(tags, names) || !slices.Equal(under, bytes) || len(bodies[0]) != 13 || len(bodies[1]) != 1 || len(bodies[2]) != 10 {
		t.Errorf("what is handed in is changed: %d %d", tags, under)
	}
	clear(under)
	if !slices.Equal(again, want) {
		t.Errorf("it shares its memory: %d", again)
	}
}

// P5.6: Tables only reads.
func TestTablesMemory(t *testing.T) {
	b := joinedByWords([]api.Tag{tag("head"), tag("x")}, [][]byte{make([]byte, 54), {7}})
	under := append(slices.Clone(b), 1, 2, 3, 4)
	whole := slices.Clone(under)
	l, _ := sfnt.Tables(under[:len(b)])
	again, _ := sfnt.Tables(under[:len(b)])
	if !slices.Equal(under, whole) {
		t.Errorf("what is handed in is changed: %d", under)
	}
	clear(l[:cap(l)])
	clear(under)
	if !slices.Equal(again, []sfnt.Table{{Tag: tag("head"), At: 44, Len: 54}, {Tag: tag("x"), At: 100, Len: 1}}) {
		t.Errorf("it shares its memory: %v", again)
	}
}

// unchanged: has a reader of a right table its bytes, and is it not bad?
func unchanged(t *testing.T, r *bin.Reader, b []byte) {
	t.Helper()
	if r.Bad() || !slices.Equal(r.Bytes(), b) {
		t.Errorf("a reader is changed: %d, bad %t", r.Bytes(), r.Bad())
	}
}

// P5.6: readers are only read, so that they tell the same again, also when the
// call was wrong for another reason than too few bytes.
func TestReadersMemory(t *testing.T) {
	head := bin.Open(aHead())
	sfnt.Head(head)
	unchanged(t, head, aHead())
	p := aPlain(5, 3)
	maxp, hhea, hmtx := bin.Open(p.maxp), bin.Open(p.hhea), bin.Open(p.hmtx)
	l, _, _, _ := sfnt.Widths(maxp, hhea, hmtx)
	sfnt.Widths(maxp, head, hmtx)
	again, _, _, _ := sfnt.Widths(maxp, hhea, hmtx)
	clear(l[:cap(l)])
	if !slices.Equal(again, []uint16{10000, 10001, 10002, 10002, 10002}) {
		t.Errorf("two answers share their memory: %d", again)
	}
	unchanged(t, maxp, p.maxp)
	unchanged(t, hhea, p.hhea)
	unchanged(t, hmtx, p.hmtx)
	for _, b := range [][]byte{only12([3]int{65, 67, 5}), only4([][4]int{{65, 67, 65536 - 60, 0}, {65535, 65535, 1, 0}})} {
		r := bin.Open(b)
		maps, _ := sfnt.Maps(r, 9)
		sfnt.Maps(r, 7)
		more, _ := sfnt.Maps(r, 9)
		clear(maps[:cap(maps)])
		if !slices.Equal(more, []api.Map{{Rune: 65, Glyph: 5}, {Rune: 66, Glyph: 6}, {Rune: 67, Glyph: 7}}) {
			t.Errorf("two answers share their memory: %v", more)
		}
		unchanged(t, r, b)
	}
}
