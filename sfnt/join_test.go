package sfnt_test

import (
	"math/rand"
	"slices"
	"testing"

	"calamus/api"
	"calamus/bin"
	"calamus/sfnt"
)

// P5.2: the chapter's example, and others by hand.
func TestJoinByHand(t *testing.T) {
	b, e := sfnt.Join([]api.Tag{tag("ab12")}, [][]byte{{1, 2, 3}})
	if e != api.OK || !slices.Equal(b, []byte{0, 1, 0, 0, 0, 1, 0, 16, 0, 0, 0, 0, 97, 98, 49, 50, 1, 2, 3, 0, 0, 0, 0, 28, 0, 0, 0, 3, 1, 2, 3, 0}) {
		t.Errorf("the example: %d %d", b, e)
	}
	b, e = sfnt.Join([]api.Tag{{}, {1}, {2}}, [][]byte{nil, {9}, {}})
	if e != api.OK || !slices.Equal(b, []byte{
		0, 1, 0, 0, 0, 3, 0, 32, 0, 1, 0, 16,
		0, 0, 0, 0, 0, 0, 0, 0, 0, 0, 0, 60, 0, 0, 0, 0,
		1, 0, 0, 0, 9, 0, 0, 0, 0, 0, 0, 60, 0, 0, 0, 1,
		2, 0, 0, 0, 0, 0, 0, 0, 0, 0, 0, 64, 0, 0, 0, 0,
		9, 0, 0, 0}) {
		t.Errorf("three: %d %d", b, e)
	}
	b, e = sfnt.Join([]api.Tag{tag("head")}, [][]byte{{0, 0, 0, 1, 0, 0, 0, 0, 1, 2, 3, 4, 0, 0, 0, 2}})
	opening := 65536 + 1<<16 + 16 // L 65536, Ws 1 and 16, 0 and 0
	record := 0x68656164 + 3 + 28 + 16
	n := 2981146554 - (opening + record + 3)
	if want := put("L", n); e != api.OK || len(b) != 44 || !slices.Equal(b[36:40], want) {
		t.Errorf("head: %d %d, want %d at 36", b, e, want)
	}
}

// P5.2: tables of all kinds, as the words say.
func TestJoin(t *testing.T) {
	r := rand.New(rand.NewSource(52))
	for range 5000 {
		tags, bodies := anyTables(r)
		want := joinedByWords(tags, bodies)
		if b, e := sfnt.Join(tags, bodies); e != api.OK || !slices.Equal(b, want) {
			t.Fatalf("%d, %d: %d %d, want %d", tags, bodies, b, e, want)
		}
	}
}

// P5.2: the four bytes of head, if it has them, make the sum of the whole.
func TestJoinHead(t *testing.T) {
	for size := range 60 {
		body := anyBytes(rand.New(rand.NewSource(int64(size))), size)
		b, e := sfnt.Join([]api.Tag{tag("OS/2"), tag("head"), tag("x")}, [][]byte{{1, 2, 3, 4, 5}, body, {255}})
		if e != api.OK || size >= 12 && bin.Sum(b) != 2981146554 {
			t.Errorf("%d bytes: sum %d, %d", size, bin.Sum(b), e)
		}
		if its := b[68 : 68+size]; size < 12 && !slices.Equal(its, body) ||
			size >= 12 && (!slices.Equal(its[:8], body[:8]) || !slices.Equal(its[12:], body[12:])) {
			t.Errorf("%d bytes: %d are %d", size, body, its)
		}
		for i := 8; i < min(size, 12); i++ {
			body[i] ^= 255
		}
		if again, _ := sfnt.Join([]api.Tag{tag("OS/2"), tag("head"), tag("x")}, [][]byte{{1, 2, 3, 4, 5}, body, {255}}); size >= 12 && !slices.Equal(again, b) {
			t.Errorf("%d bytes: the four bytes count", size)
		}
	}
	for _, name := range []string{"heae", "Head", "hhea"} {
		body := []byte{1, 2, 3, 4, 5, 6, 7, 8, 9, 10, 11, 12, 13}
		if b, e := sfnt.Join([]api.Tag{tag(name)}, [][]byte{body}); e != api.OK || !slices.Equal(b[28:41], body) {
			t.Errorf("%s: %d %d", name, b, e)
		}
	}
}

// noJoin: is that error all that is told?
func noJoin(t *testing.T, what string, tags []api.Tag, bodies [][]byte, want api.Errno) {
	t.Helper()
	if b, e := sfnt.Join(tags, bodies); b != nil || e != want {
		t.Errorf("%s: %d bytes, %d, want %d", what, len(b), e, want)
	}
}

// P5.2: ErrArg.
func TestJoinWrong(t *testing.T) {
	a, b := tag("a"), tag("b")
	noJoin(t, "nothing", nil, nil, api.ErrArg)
	noJoin(t, "lists of nothing", []api.Tag{}, [][]byte{}, api.ErrArg)
	noJoin(t, "no bodies", []api.Tag{a}, nil, api.ErrArg)
	noJoin(t, "no tags", nil, [][]byte{{1}}, api.ErrArg)
	noJoin(t, "a body more", []api.Tag{a}, [][]byte{{1}, {2}}, api.ErrArg)
	noJoin(t, "a tag more", []api.Tag{a, b}, [][]byte{{1}}, api.ErrArg)
	noJoin(t, "alike", []api.Tag{a, a}, [][]byte{{1}, {1}}, api.ErrArg)
	noJoin(t, "falling", []api.Tag{b, a}, [][]byte{{1}, {1}}, api.ErrArg)
	noJoin(t, "falling at the end", []api.Tag{a, b, a}, [][]byte{{1}, {1}, {1}}, api.ErrArg)
	noJoin(t, "bytes with a sign", []api.Tag{{128}, {127}}, [][]byte{{1}, {1}}, api.ErrArg)
	var tags []api.Tag
	for i := range 65 {
		tags = append(tags, api.Tag{'a', 0, 0, byte(i)})
	}
	noJoin(t, "65", tags, make([][]byte, 65), api.ErrArg)
	if b, e := sfnt.Join(tags[:64], make([][]byte, 64)); e != api.OK || len(b) != 12+64*16 {
		t.Errorf("64: %d bytes, %d", len(b), e)
	}
}

// P5.2: as many bytes as there may be, and more; ErrArg is ahead of ErrLimit.
func TestJoinMost(t *testing.T) {
	most := make([]byte, api.MaxFont)
	most[0] = 1
	one, room := []api.Tag{tag("a")}, api.MaxFont-28
	for size := room - 4; size <= room+4; size++ {
		b, e := sfnt.Join(one, [][]byte{most[:size]})
		if size > room && (e != api.ErrLimit || b != nil) || size <= room && (e != api.OK || len(b) != 28+(size+3)/4*4) {
			t.Errorf("%d of %d: %d bytes, %d", size, room, len(b), e)
		}
	}
	pair, room := []api.Tag{tag("a"), tag("b")}, api.MaxFont-44
	if b, e := sfnt.Join(pair, [][]byte{most[:room-4], {1}}); e != api.OK || len(b) != api.MaxFont || b[api.MaxFont-4] != 1 {
		t.Errorf("two: %d bytes, %d", len(b), e)
	}
	noJoin(t, "noughts between", pair, [][]byte{most[:room-3], {1}}, api.ErrLimit)
	noJoin(t, "noughts behind", pair, [][]byte{most[:room-4], {1, 2, 3, 4, 5}}, api.ErrLimit)
	noJoin(t, "falling, too", []api.Tag{tag("b"), tag("a")}, [][]byte{most, most}, api.ErrArg)
	noJoin(t, "a body more, too", one, [][]byte{most, most}, api.ErrArg)
	var tags []api.Tag
	var bodies [][]byte
	for i := range 65 {
		tags, bodies = append(tags, api.Tag{byte(i)}), append(bodies, most)
	}
	noJoin(t, "64 of the greatest", tags[:64], bodies[:64], api.ErrLimit)
	noJoin(t, "65 of the greatest", tags, bodies, api.ErrArg)
}

// P5.7: what is joined is well-formed, and has just these tables.
func TestJoinedIsFont(t *testing.T) {
	r := rand.New(rand.NewSource(57))
	for range 5000 {
		tags, bodies := anyTables(r)
		b, _ := sfnt.Join(tags, bodies)
		l, e := sfnt.Tables(b)
		if e != api.OK || len(l) != len(tags) {
			t.Fatalf("%d, %d: %v %d", tags, bodies, l, e)
		}
		for i, x := range l {
			its, body := slices.Clone(b[x.At:x.At+x.Len]), slices.Clone(bodies[i])
			if x.Tag == tag("head") && x.Len >= 12 && len(body) >= 12 {
				clear(its[8:12])
				clear(body[8:12])
			}
			if x.Tag != tags[i] || !slices.Equal(its, body) {
				t.Fatalf("%d, %d: %v is %d", tags, bodies, x, its)
			}
		}
	}
}
