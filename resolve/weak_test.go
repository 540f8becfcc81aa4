package resolve_test

import (
	"math/rand"
	"slices"
	"testing"

	"calamus/api"
	"calamus/resolve"
)

// P11.1: the chapter's examples, and each rule, by hand.
func TestWeakByHand(t *testing.T) {
	for _, x := range []struct {
		l    string
		sos  api.Class
		want string
	}{
		{"", api.L, ""}, {"", api.R, ""},
		// The chapter's.
		{"AL NSM EN CS EN", api.L, "R R AN AN AN"},
		{"NSM RLI NSM PDI NSM", api.R, "R RLI ON PDI ON"},
		{"L EN CS EN ES EN ET", api.R, "L L L L L L L"},
		{"R EN CS AN ET ET EN ET", api.L, "R EN ON AN EN EN EN EN"},
		{"EN BN CS BN EN BN ET", api.L, "L BN L BN L BN L"},
		{"ET BN ET ES", api.R, "ON BN ON ON"},
		// W1: a mark is what stands ahead; the first one what the row begins with.
		{"NSM NSM L NSM", api.R, "R R L L"}, {"NSM BN NSM", api.L, "L BN L"}, {"NSM", api.AL, "L"}, {"NSM EN", api.AL, "L L"},
		{"R NSM ON NSM WS NSM B NSM S NSM LRE NSM", api.L, "R R ON ON WS WS B B S S LRE LRE"},
		{"LRI NSM NSM FSI BN NSM PDI NSM BN NSM", api.R, "LRI ON ON FSI BN ON PDI ON BN ON"},
		{"R EN CS NSM EN", api.L, "R EN ON ON EN"}, {"R ET NSM EN NSM", api.L, "R EN EN EN EN"}, {"R AN NSM CS AN", api.L, "R AN AN AN AN"},
		// W2, W3: the last strong one tells, over all that is none.
		{"AL ON PDI B EN L EN AL EN R EN", api.L, "R ON PDI B AN L L R AN R EN"},
		{"EN AL", api.AL, "L R"}, {"EN AL", api.R, "EN R"}, {"AL BN EN", api.R, "R BN AN"}, {"AL AN EN", api.L, "R AN AN"},
		{"AL LRI EN", api.R, "R LRI AN"}, {"AL NSM NSM", api.L, "R R R"}, {"AL EN ET ET EN", api.L, "R AN ON ON AN"},
		// W4: just one between two of a kind.
		{"R EN ES EN CS EN", api.L, "R EN EN EN EN EN"}, {"R AN CS AN ES AN", api.L, "R AN AN AN ON AN"},
		{"R EN ES ES EN", api.L, "R EN ON ON EN"}, {"R EN CS CS EN", api.L, "R EN ON ON EN"}, {"R AN CS CS AN", api.L, "R AN ON ON AN"},
		{"R EN CS AN", api.L, "R EN ON AN"}, {"R AN CS EN", api.L, "R AN ON EN"}, {"R EN ES AN", api.L, "R EN ON AN"},
		{"CS EN", api.R, "ON EN"}, {"EN CS", api.R, "EN ON"}, {"ES", api.R, "ON"}, {"CS", api.L, "ON"}, {"AL EN ES EN", api.R, "R AN ON AN"},
		{"R EN BN BN ES BN EN", api.L, "R EN BN BN EN BN EN"}, {"R CS R ES R", api.L, "R ON R ON R"},
		// W5: as many as stand together, on both sides; not by what it makes itself of W4.
		{"R ET ET EN ET ET", api.L, "R EN EN EN EN EN"}, {"R ET BN ET BN EN BN ET", api.L, "R EN BN EN BN EN BN EN"},
		{"R ET ET AN ET", api.L, "R ON ON AN ON"}, {"ET", api.R, "ON"}, {"ET ET", api.L, "ON ON"}, {"R EN ON ET", api.L, "R EN ON ON"},
		{"R EN ET CS EN", api.L, "R EN EN ON EN"}, {"R EN CS ET EN", api.L, "R EN ON EN EN"}, {"R EN ET ES ET EN", api.L, "R EN EN ON EN EN"},
		{"R ET CS EN ET", api.L, "R ON ON EN EN"}, {"R EN CS EN ET", api.L, "R EN EN EN EN"}, {"R ET EN CS EN", api.L, "R EN EN EN EN"},
		// W7: behind an L, or at the beginning, of what the rules ahead have made, too.
		{"EN ON EN", api.L, "L ON L"}, {"EN ON EN", api.R, "EN ON EN"}, {"L ET EN ON ET EN CS EN", api.R, "L L L ON L L L L"},
		{"L R EN L EN", api.R, "L R EN L L"}, {"L AN EN", api.R, "L AN L"}, {"L RLI EN PDI ET EN", api.R, "L RLI L PDI L L"},
		{"L NSM EN ET R NSM EN", api.R, "L L L L R R EN"},
		// Others stay.
		{"B S WS ON LRE RLE LRO RLO PDF LRI RLI FSI PDI BN 0 AN R L", api.R, "B S WS ON LRE RLE LRO RLO PDF LRI RLI FSI PDI BN 0 AN R L"},
	} {
		if got := resolve.Weak(row(x.l), x.sos); !slices.Equal(got, row(x.want)) {
			t.Errorf("Weak(%s, %d): %d, want %s", x.l, x.sos, got, x.want)
		}
		sameWeak(t, row(x.l), x.sos)
	}
}

// P11.1: all short rows, of all classes, of those that rules are about, and of
// those that W4 to W7 are about.
func TestWeakOfAll(t *testing.T) {
	for n := range 4 {
		everyRow(everyClass(), n, func(l []api.Class) {
			for _, sos := range edges() {
				sameWeak(t, l, sos)
			}
		})
	}
	both := func(l []api.Class) {
		sameWeak(t, l, api.L)
		sameWeak(t, l, api.R)
	}
	everyRow(row("L R AL EN ES ET AN CS NSM BN PDI"), 5, both)
	everyRow(row("R EN ET AN CS"), 7, both)
	everyRow(row("EN ET ES BN"), 8, both)
}

// P11.1: long rows.
func TestWeakOfAny(t *testing.T) {
	r := rand.New(rand.NewSource(111))
	for i := range 20000 {
		of := everyClass()
		if i%2 == 0 {
			of = row("L R AL EN EN ES ET ET AN CS NSM BN ON")
		}
		sameWeak(t, anyRow(r, 40, of), edges()[r.Intn(len(edges()))])
	}
}

// P11.1: rows longer than a paragraph.
func TestWeakLong(t *testing.T) {
	const n = 1 << 18
	l := slices.Repeat(row("ET BN"), n)
	l[len(l)-1] = api.EN
	want := slices.Repeat(row("EN BN"), n)
	want[len(l)-1] = api.EN
	if got := resolve.Weak(l, api.R); !slices.Equal(got, want) {
		t.Errorf("Weak of %d classes is wrong", len(l))
	}
}
