package cover_test

import (
	"math/rand"
	"slices"
	"testing"

	"calamus/api"
	"calamus/bin"
	"calamus/cover"
)

// coveragePut tells what PutCoverage has to answer, as the words say.
func coveragePut(l []uint16) ([]byte, api.Errno) {
	if len(l) == 0 || len(l) > 65535 {
		return nil, api.ErrArg
	}
	numbers := []int{1, len(l)}
	for i, g := range l {
		if i > 0 && g <= l[i-1] {
			return nil, api.ErrArg
		}
		numbers = append(numbers, int(g))
	}
	return words(numbers...), api.OK
}

// classesPut tells what PutClasses has to answer, as the words say.
func classesPut(l []uint8) ([]byte, api.Errno) {
	if len(l) > 65535 {
		return nil, api.ErrArg
	}
	numbers, n := []int{}, 0
	for g, class := range l {
		if class > 4 {
			return nil, api.ErrArg
		}
		if class == 0 {
			continue
		}
		if g > 0 && l[g-1] == class {
			numbers[3*n-2] = g
			continue
		}
		numbers, n = append(numbers, g, g, int(class)), n+1
	}
	return words(append([]int{2, n}, numbers...)...), api.OK
}

// samePutCoverage: does PutCoverage tell what the words say, and is it read
// again (P6.7)?
func samePutCoverage(t *testing.T, l []uint16) {
	t.Helper()
	want, wrong := coveragePut(l)
	b, e := cover.PutCoverage(l)
	if !slices.Equal(b, want) || e != wrong || e != api.OK && b != nil {
		t.Fatalf("%d: %d %d, want %d %d", l, b, e, want, wrong)
	}
	if e != api.OK {
		return
	}
	greatest := int(l[len(l)-1])
	for _, glyphs := range []int{greatest + 1, 65536} {
		if again, e := cover.Coverage(bin.Open(b), 0, glyphs); e != api.OK || !slices.Equal(again, l) {
			t.Fatalf("%d is read as %d %d", l, again, e)
		}
	}
	isNoCoverage(t, "of fewer glyphs", b, greatest)
}

// samePutClasses: the same of PutClasses.
func samePutClasses(t *testing.T, l []uint8) {
	t.Helper()
	want, wrong := classesPut(l)
	b, e := cover.PutClasses(l)
	if !slices.Equal(b, want) || e != wrong || e != api.OK && b != nil {
		t.Fatalf("%d: %d %d, want %d %d", l, b, e, want, wrong)
	}
	if e != api.OK {
		return
	}
	for _, more := range []int{0, 1, 65536 - len(l)} {
		glyphs := len(l) + more
		if again, e := cover.Classes(bin.Open(b), 0, glyphs); e != api.OK || !slices.Equal(again, append(slices.Clone(l), make([]uint8, more)...)) {
			t.Fatalf("%d of %d glyphs is read as %d %d", l, glyphs, again, e)
		}
	}
}

// P6.5: the chapter's example, and others by hand.
func TestPutByHand(t *testing.T) {
	b, e := cover.PutClasses([]uint8{0, 1, 1, 3})
	if e != api.OK || !slices.Equal(b, []byte{0, 2, 0, 2, 0, 1, 0, 2, 0, 1, 0, 3, 0, 3, 0, 3}) {
		t.Errorf("the example: %d %d", b, e)
	}
	b, e = cover.PutCoverage([]uint16{5, 9, 258})
	if e != api.OK || !slices.Equal(b, []byte{0, 1, 0, 3, 0, 5, 0, 9, 1, 2}) {
		t.Errorf("a coverage: %d %d", b, e)
	}
	for _, l := range [][]uint8{nil, {}, {0}, {0, 0, 0}} {
		if b, e := cover.PutClasses(l); e != api.OK || !slices.Equal(b, []byte{0, 2, 0, 0}) {
			t.Errorf("no class: %d %d", b, e)
		}
	}
	b, e = cover.PutClasses([]uint8{4, 0, 4, 1, 2, 2})
	if e != api.OK || !slices.Equal(b, words(2, 4, 0, 0, 4, 2, 2, 4, 3, 3, 1, 4, 5, 2)) {
		t.Errorf("rows: %d %d", b, e)
	}
}

// P6.5: ErrArg.
func TestPutWrong(t *testing.T) {
	for i, l := range [][]uint16{nil, {}, {2, 2}, {3, 2}, {1, 2, 0}, {65535, 0}, {0, 65535, 65535}} {
		if b, e := cover.PutCoverage(l); b != nil || e != api.ErrArg {
			t.Errorf("coverage %d: %d %d", i, b, e)
		}
	}
	for i, l := range [][]uint8{{5}, {0, 0, 5}, {5, 0, 0}, {1, 255, 1}, {4, 4, 128}} {
		if b, e := cover.PutClasses(l); b != nil || e != api.ErrArg {
			t.Errorf("classes %d: %d %d", i, b, e)
		}
	}
	for class := range 256 {
		samePutClasses(t, []uint8{1, uint8(class), uint8(class)})
	}
}

// P6.5, P6.7: as many as there may be, and more.
func TestPutMost(t *testing.T) {
	var all []uint16
	for g := range 65536 {
		all = append(all, uint16(g))
	}
	samePutCoverage(t, all[:65534])
	samePutCoverage(t, all[:65535])
	samePutCoverage(t, all[1:])
	samePutCoverage(t, all)
	samePutCoverage(t, append(all, all...))
	many := make([]uint8, 70000)
	for i := range many {
		many[i] = uint8(1 + i%4)
	}
	for _, n := range []int{65534, 65535, 65536, 65537, 70000} {
		samePutClasses(t, many[:n])
		samePutClasses(t, make([]uint8, n))
		samePutClasses(t, slices.Repeat([]uint8{4}, n))
	}
	many[65534] = 5
	samePutClasses(t, many[:65535])
	samePutClasses(t, many[:65534])
}

// P6.5, P6.7: all short rows of classes.
func TestPutClassesShort(t *testing.T) {
	var put func(l []uint8, more int)
	put = func(l []uint8, more int) {
		samePutClasses(t, l)
		for class := uint8(0); more > 0 && class < 4; class++ {
			put(append(slices.Clone(l), class*class/2), more-1) // 0, 0, 2, 4
		}
	}
	put(nil, 5)
}

// P6.5, P6.7: all kinds.
func TestPutAtRandom(t *testing.T) {
	r := rand.New(rand.NewSource(65))
	for range 2000 {
		var l []uint16
		g := r.Intn(4)
		for range r.Intn(30) {
			l = append(l, uint16(g))
			g += 1 + r.Intn(3)*r.Intn(1000)
			if r.Intn(100) == 0 {
				g -= r.Intn(3)
			}
		}
		samePutCoverage(t, l)
	}
	for range 2000 {
		l := make([]uint8, r.Intn(60))
		for i := range l {
			if i > 0 && r.Intn(2) == 0 {
				l[i] = l[i-1]
			} else {
				l[i] = uint8(r.Intn(5) + r.Intn(200)/199)
			}
		}
		samePutClasses(t, l)
	}
}
