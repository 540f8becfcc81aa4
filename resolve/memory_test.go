package resolve_test

import (
	"math/rand"
	"slices"
	"testing"

	"calamus/api"
	"calamus/resolve"
)

// handed is a list that is handed in, with more behind its length, and how it was.
type handed[T comparable] struct {
	under, before []T
	length        int
}

// hand tells a list to hand in, of a copy of another one.
func hand[T comparable](l []T, more ...T) handed[T] {
	under := slices.Concat(l, more)
	return handed[T]{under, slices.Clone(under), len(l)}
}

// list tells what is handed in.
func (h handed[T]) list() []T { return h.under[:h.length] }

// same: is it as it was?
func (h handed[T]) same() bool { return slices.Equal(h.under, h.before) }

// spoil writes over a list, what lies behind its length included.
func spoil[T any](l []T, with T) {
	l = l[:cap(l)]
	for i := range l {
		l[i] = with
	}
}

// apart asks twice for the same, and spoils the first answer, and then what was
// handed in: nothing else may change by it.
func apart[T comparable](t *testing.T, what string, with T, ask func() []T, same func() bool, spoilHanded func()) {
	t.Helper()
	one, other := ask(), ask()
	want := slices.Clone(other)
	if !same() {
		t.Fatalf("%s: what is handed in is changed", what)
	}
	spoil(one, with)
	if !same() || !slices.Equal(other, want) {
		t.Fatalf("%s: what is answered is no new memory", what)
	}
	if !slices.Equal(ask(), want) {
		t.Fatalf("%s: an answer hangs on another one", what)
	}
	spoilHanded()
	if !slices.Equal(other, want) {
		t.Fatalf("%s: what is handed in is kept", what)
	}
}

// P11.6: what is handed in is only read, and what is answered new, of classes.
func TestClassesMemory(t *testing.T) {
	r := rand.New(rand.NewSource(116))
	more := row("EN NSM ON R BN ET")
	for i := range 5000 {
		of := everyClass()
		if i%2 == 0 {
			of = row("L R EN BN")
		}
		l := anyRow(r, 12, of)
		level, sos := uint8(r.Intn(126)), api.L+api.Class(r.Intn(2))
		a, b, c := hand(l, more...), hand(l, more...), hand(l, more...)
		apart(t, "Weak", 99, func() []api.Class { return resolve.Weak(a.list(), sos) }, a.same, func() { spoil(a.under, 99) })
		apart(t, "Neutral", 99, func() []api.Class { return resolve.Neutral(b.list(), level, sos, sos) }, b.same, func() { spoil(b.under, 99) })
		apart(t, "Levels", 99, func() []uint8 { return resolve.Levels(c.list(), level) }, c.same, func() { spoil(c.under, 99) })
	}
}

// P11.6: likewise, of characters and classes.
func TestPairsMemory(t *testing.T) {
	r := rand.New(rand.NewSource(126))
	for range 5000 {
		text := anyRow(r, 20, []rune("a\u05d01([)]\u0301\u200b "))
		level, sos := uint8(r.Intn(126)), api.L+api.Class(r.Intn(2))
		l := hand(text, ')', 0x301, ']')
		first := hand(classesOf(text), row("ON NSM ON")...)
		now := hand(resolve.Weak(first.list(), sos), row("ON ON ON")...)
		same := func() bool { return l.same() && first.same() && now.same() }
		spoilAll := func() {
			spoil(l.under, '?')
			spoil(first.under, 99)
			spoil(now.under, 99)
		}
		apart(t, "Brackets", resolve.Pair{Open: -1}, func() []resolve.Pair { return resolve.Brackets(l.list(), now.list()) }, same, func() {})
		apart(t, "Pairs", 99, func() []api.Class {
			got, _ := resolve.Pairs(l.list(), first.list(), now.list(), level, sos)
			return got
		}, same, spoilAll)
	}
}

// P11.6: one list handed in twice; an error changes nothing.
func TestSameMemory(t *testing.T) {
	text := []rune("\u05d0(1)\u0301")
	classes := hand(classesOf(text), row("NSM ON")...)
	got, e := resolve.Pairs(text, classes.list(), classes.list(), 0, api.L)
	if e != api.OK || !slices.Equal(got, row("R R EN R R")) || !classes.same() {
		t.Errorf("%d %d, of %d", got, e, classes.under)
	}
	if _, e := resolve.Pairs(text, classes.list(), classes.list()[1:], 0, api.L); e != api.ErrArg || !classes.same() {
		t.Errorf("%d, of %d", e, classes.under)
	}
}
