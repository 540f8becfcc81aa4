package resolve_test

import (
	"math/rand"
	"slices"
	"testing"

	"calamus/api"
	"calamus/resolve"
)

// P11.4, P11.5: the chapter's examples, and others, by hand.
func TestNeutralByHand(t *testing.T) {
	for _, x := range []struct {
		l        string
		level    uint8
		sos, eos api.Class
		want     string
		levels   []uint8
	}{
		{"", 0, api.L, api.L, "", nil},
		// The chapter's.
		{"L ON R ON EN WS L", 0, api.L, api.L, "L L R R EN L L", []uint8{0, 0, 1, 1, 2, 0, 0}},
		{"ON", 1, api.L, api.L, "L", []uint8{2}},
		{"RLI PDI B", 0, api.R, api.R, "R R R", []uint8{1, 1, 1}},
		{"R BN ON BN R", 0, api.L, api.L, "R BN R BN R", []uint8{1, 0, 1, 0, 1}},
		// At both ends: sos, eos; others than R count as L.
		{"ON ON", 0, api.R, api.L, "L L", []uint8{0, 0}}, {"ON ON", 1, api.R, api.L, "R R", []uint8{1, 1}}, {"WS", 0, api.R, api.R, "R", []uint8{1}},
		{"ON", 1, api.AL, 0, "L", []uint8{2}}, {"ON", 1, api.EN, api.AN, "L", []uint8{2}}, {"ON", 1, 255, api.R, "R", []uint8{1}},
		{"ON R", 0, api.R, api.L, "R R", []uint8{1, 1}}, {"R ON", 0, api.L, api.R, "R R", []uint8{1, 1}}, {"ON R ON", 0, api.L, api.L, "L R L", []uint8{0, 1, 0}},
		{"BN ON BN", 0, api.R, api.R, "BN R BN", []uint8{0, 1, 0}}, {"L ON BN", 1, api.R, api.L, "L L BN", []uint8{2, 2, 1}},
		// Between: numbers are as R; as many as stand together.
		{"EN ON AN", 0, api.L, api.L, "EN R AN", []uint8{2, 1, 2}}, {"AN B S WS ON LRI RLI FSI PDI EN", 2, api.L, api.L, "AN R R R R R R R R EN", []uint8{4, 3, 3, 3, 3, 3, 3, 3, 3, 4}},
		{"L ON BN WS L", 1, api.R, api.R, "L L BN L L", []uint8{2, 2, 1, 2, 2}}, {"L ON EN", 1, api.L, api.L, "L R EN", []uint8{2, 1, 2}},
		{"R ON L ON L", 1, api.L, api.L, "R R L L L", []uint8{1, 1, 2, 2, 2}}, {"L R EN AN BN", 1, api.R, api.R, "L R EN AN BN", []uint8{2, 1, 2, 2, 1}},
		// What has no direction.
		{"AL ON AL", 0, api.R, api.R, "AL L AL", []uint8{0, 0, 0}}, {"0 ON 0 ON", 1, api.L, api.L, "0 R 0 R", []uint8{1, 1, 1, 1}},
		{"L ES ON L ET WS NSM", 0, api.R, api.R, "L ES L L ET L NSM", []uint8{0, 0, 0, 0, 0, 0, 0}},
		{"R LRE ON R", 0, api.R, api.R, "R LRE L R", []uint8{1, 0, 0, 1}}, {"ON PDF", 1, api.L, api.L, "R PDF", []uint8{1, 1}},
	} {
		got := resolve.Neutral(row(x.l), x.level, x.sos, x.eos)
		levels := resolve.Levels(got, x.level)
		if !slices.Equal(got, row(x.want)) || !slices.Equal(levels, x.levels) {
			t.Errorf("%s, of %d, %d, %d: %d %d, want %s %d", x.l, x.level, x.sos, x.eos, got, levels, x.want, x.levels)
		}
		sameNeutral(t, row(x.l), x.level, x.sos, x.eos)
	}
}

// P11.4: all short rows, and longer ones.
func TestNeutralOfAll(t *testing.T) {
	for n := range 4 {
		everyRow(everyClass(), n, func(l []api.Class) {
			for level := range uint8(2) {
				for k := range api.Class(4) {
					sameNeutral(t, l, level, api.L+k%2, api.L+k/2)
				}
			}
		})
	}
	everyRow(row("L R EN BN ON PDI AL"), 5, func(l []api.Class) {
		sameNeutral(t, l, 0, api.R, api.L)
		sameNeutral(t, l, 1, api.L, api.L)
	})
	r := rand.New(rand.NewSource(114))
	for i := range 20000 {
		of := everyClass()
		if i%2 == 0 {
			of = row("L R EN AN BN ON WS B S RLI PDI")
		}
		sameNeutral(t, anyRow(r, 40, of), uint8(r.Intn(256)), edges()[r.Intn(len(edges()))], edges()[r.Intn(len(edges()))])
	}
}

// P11.4: rows longer than a paragraph.
func TestNeutralLong(t *testing.T) {
	const n = 1 << 18
	l := slices.Repeat(row("ON BN"), n)
	if got := resolve.Neutral(l, 0, api.R, api.R); !slices.Equal(got, slices.Repeat(row("R BN"), n)) {
		t.Errorf("Neutral of %d classes is wrong", len(l))
	}
	if got := resolve.Levels(l, 7); !slices.Equal(got, slices.Repeat([]uint8{7}, 2*n)) {
		t.Errorf("Levels of %d classes is wrong", len(l))
	}
}

// P11.5: of every class, of every level, modulo 256.
func TestLevelsOfAll(t *testing.T) {
	var all []api.Class
	for c := range 256 {
		all = append(all, api.Class(c))
	}
	for level := range 256 {
		got, want := resolve.Levels(all, uint8(level)), levelsByWords(all, uint8(level))
		if !slices.Equal(got, want) {
			t.Errorf("of %d: %d, want %d", level, got, want)
		}
	}
	for _, x := range []struct {
		level uint8
		want  []uint8
	}{
		{0, []uint8{0, 1, 2, 2, 0, 0, 0}}, {1, []uint8{2, 1, 2, 2, 1, 1, 1}}, {125, []uint8{126, 125, 126, 126, 125, 125, 125}},
		{254, []uint8{254, 255, 0, 0, 254, 254, 254}}, {255, []uint8{0, 255, 0, 0, 255, 255, 255}},
	} {
		if got := resolve.Levels(row("L R EN AN BN ON AL"), x.level); !slices.Equal(got, x.want) {
			t.Errorf("of %d: %d, want %d", x.level, got, x.want)
		}
	}
	if got := resolve.Levels(nil, 5); len(got) > 0 {
		t.Errorf("of nothing: %d", got)
	}
}
