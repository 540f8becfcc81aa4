package cover_test

import (
	"math"
	"math/rand"
	"slices"
	"testing"

	"calamus/api"
	"calamus/bin"
	"calamus/cover"
)

// record tells the bytes of a feature's name and place.
func record(name string, at int) []byte { return append([]byte(name[:4]), words(at)...) }

func sameFeature(a, b api.Feature) bool {
	return a.Tag == b.Tag && slices.Equal(a.Lookups, b.Lookups)
}

// featuresByWords tells the features, as the chapter's words say.
func featuresByWords(b []byte, at, lookups int) ([]api.Feature, bool) {
	n, ok := wordsAt(b, at, 1)
	if !ok || n[0] > 512 {
		return nil, false
	}
	var l []api.Feature
	for i := range n[0] {
		name := at + 2 + 6*i
		begin, ok := wordsAt(b, name+4, 1)
		if !ok {
			return nil, false
		}
		nought, ok := wordsAt(b, at+begin[0], 1)
		if !ok || nought[0] != 0 {
			return nil, false
		}
		numbers, ok := counted(b, at+begin[0]+2, 1)
		if !ok {
			return nil, false
		}
		its := map[int]int{}
		for _, number := range numbers {
			if number >= lookups {
				return nil, false
			}
			its[number]++
		}
		f := api.Feature{Tag: api.Tag(b[name : name+4])}
		for number := range its {
			f.Lookups = append(f.Lookups, number)
		}
		slices.Sort(f.Lookups)
		l = append(l, f)
	}
	return l, true
}

// sameFeatures: does Features tell what the words say? Tells whether there are some.
func sameFeatures(t *testing.T, b []byte, at, lookups int) bool {
	t.Helper()
	want, ok := featuresByWords(b, at, lookups)
	if l, e := cover.Features(bin.Open(b), at, lookups); !slices.EqualFunc(l, want, sameFeature) || e != numberOf(ok) || !ok && l != nil {
		t.Fatalf("%d at %d of %d lookups: %v %d, want %v %t", b, at, lookups, l, e, want, ok)
	}
	return ok
}

func areFeatures(t *testing.T, what string, b []byte, lookups int, want ...api.Feature) {
	t.Helper()
	if l, e := cover.Features(bin.Open(b), 0, lookups); e != api.OK || !slices.EqualFunc(l, want, sameFeature) {
		t.Errorf("%s: %v %d, want %v", what, l, e, want)
	}
}

func areNoFeatures(t *testing.T, what string, b []byte, lookups int) {
	t.Helper()
	if l, e := cover.Features(bin.Open(b), 0, lookups); e != api.ErrFont || l != nil {
		t.Errorf("%s: %v %d, want ErrFont", what, l, e)
	}
}

func named(name string, lookups ...int) api.Feature {
	return api.Feature{Tag: api.Tag([]byte(name)), Lookups: lookups}
}

// twoFeatures is liga with the lookups 5, 1, 5 and init with 300.
func twoFeatures() []byte {
	return slices.Concat(words(2), record("liga", 14), record("init", 24), words(0, 3, 5, 1, 5), words(0, 1, 300))
}

// P6.3, by hand: their order is that of the bytes, lookups rise, none twice.
func TestFeaturesByHand(t *testing.T) {
	areFeatures(t, "two", twoFeatures(), 301, named("liga", 1, 5), named("init", 300))
	areFeatures(t, "none", words(0), 5)
	areFeatures(t, "no lookups", slices.Concat(words(1), record("kern", 8), words(0, 0)), 0, named("kern"))
	areFeatures(t, "falling", slices.Concat(words(1), record("kern", 8), words(0, 6, 9, 0, 7, 0, 9, 3)), 10, named("kern", 0, 3, 7, 9))
	areFeatures(t, "alike, at one place", slices.Concat(words(2), record("zzzz", 14), record("zzzz", 14), words(0, 2, 2, 1)), 3, named("zzzz", 1, 2), named("zzzz", 1, 2))
	areFeatures(t, "names of any bytes", slices.Concat(words(2), record("\xff\x00\x80 ", 14), record("\x00\x00\x00\x00", 18), words(0, 0), words(0, 1, 65535)), 65536, named("\xff\x00\x80 "), named("\x00\x00\x00\x00", 65535))
	areFeatures(t, "more behind", append(twoFeatures(), 1, 2, 3), 301, named("liga", 1, 5), named("init", 300))
	areFeatures(t, "falling places", slices.Concat(words(2), record("aaaa", 20), record("bbbb", 14), words(0, 1, 7), words(0, 1, 8)), 9, named("aaaa", 8), named("bbbb", 7))
}

// P6.3: what is wrong.
func TestFeaturesWrong(t *testing.T) {
	areNoFeatures(t, "no bytes", nil, 5)
	areNoFeatures(t, "too few records", slices.Concat(words(2), record("liga", 8), words(0, 0)), 5)
	areNoFeatures(t, "a feature that begins with 1", slices.Concat(words(1), record("liga", 8), words(1, 1, 1)), 5)
	areNoFeatures(t, "one that begins with 256", slices.Concat(words(1), record("liga", 8), words(256, 0)), 5)
	areNoFeatures(t, "a lookup that is none", slices.Concat(words(1), record("liga", 8), words(0, 2, 5, 1)), 5)
	areNoFeatures(t, "too few lookups", slices.Concat(words(1), record("liga", 8), words(0, 2, 1)), 5)
	areNoFeatures(t, "no feature there", slices.Concat(words(1), record("liga", 12), words(0, 0)), 5)
	areNoFeatures(t, "half a feature there", slices.Concat(words(1), record("liga", 10), words(0, 0)), 5)
	areNoFeatures(t, "the second one is wrong", slices.Concat(words(2), record("liga", 14), record("init", 16), words(0, 0, 3)), 5)
}

// P6.3: which lookups there are.
func TestFeaturesOfLookups(t *testing.T) {
	none := slices.Concat(words(1), record("kern", 8), words(0, 0))
	for _, lookups := range []int{math.MinInt, -1, 0, 1, 5, 6, 300, 301, 302, 65535, 65536, math.MaxInt} {
		sameFeatures(t, twoFeatures(), 0, lookups)
		sameFeatures(t, slices.Concat(words(1), record("kern", 8), words(0, 2, 65535, 0)), 0, lookups)
		sameFeatures(t, none, 0, lookups)
	}
	areFeatures(t, "no lookups of fewer than none", none, math.MinInt, named("kern"))
}

// P6.3: as many features as there may be, and one more; as many lookups.
func TestFeaturesMost(t *testing.T) {
	for _, n := range []int{511, 512, 513, 65535} {
		b := words(n)
		for i := range n {
			b = append(b, record(string([]byte{byte(i / 256), byte(i), 'a', 'b'}), 2)...)
		}
		copy(b[2:], words(0, 0)) // the first name is a feature of no lookups, which all have
		l, e := cover.Features(bin.Open(b), 0, 5)
		if n <= 512 && (e != api.OK || len(l) != n) || n > 512 && (e != api.ErrFont || l != nil) {
			t.Errorf("%d: %d, %d", n, len(l), e)
		}
		sameFeatures(t, b, 0, 5)
	}
	many := slices.Concat(words(2), record("aaaa", 14), record("bbbb", 14), words(0, 65535))
	for i := range 65535 {
		many = append(many, words(65535-i)...)
	}
	for _, lookups := range []int{65535, 65536} {
		sameFeatures(t, many, 0, lookups)
	}
}

// P6.3: each byte, whatever it is; every length.
func TestFeaturesOfBytes(t *testing.T) {
	for _, lookups := range []int{2, 6, 301, 65536} {
		everyByte(twoFeatures(), func(b []byte) { sameFeatures(t, b, 0, lookups) })
	}
}

// P6.3: places are reckoned from where the list begins.
func TestFeaturesAtPlaces(t *testing.T) {
	b := twoFeatures()
	want, _ := featuresByWords(b, 0, 301)
	for n := range 9 {
		if l, e := cover.Features(behind(b, n), n, 301); e != api.OK || !slices.EqualFunc(l, want, sameFeature) {
			t.Errorf("at %d: %v %d", n, l, e)
		}
	}
	for at := -8; at < len(b)+8; at++ {
		sameFeatures(t, b, at, 301)
	}
	for _, at := range farPlaces() {
		sameFeatures(t, b, at, 301)
	}
}

// P6.3: no reader, a bad one, one that is made by hand.
func TestFeaturesOfNone(t *testing.T) {
	for _, b := range [][]byte{twoFeatures(), words(0)} {
		for i, r := range noReaders(b) {
			if l, e := cover.Features(r, 0, 301); l != nil || e != api.ErrFont {
				t.Errorf("%d: %v %d", i, l, e)
			}
		}
	}
}

// P6.3: features of all kinds, and what is nearly some.
func TestFeaturesAtRandom(t *testing.T) {
	r := rand.New(rand.NewSource(63))
	right := 0
	for range 60000 {
		n := r.Intn(4)
		b := words(n)
		at := 2 + 6*n
		var tables []byte
		for range n {
			b = append(b, record(string([]byte{byte(r.Intn(256)), byte(r.Intn(256)), 'a', 'b'}), at+len(tables))...)
			k := r.Intn(6)
			tables = slices.Concat(tables, words(r.Intn(20)/19, k), someWords(r, k, 8))
		}
		b = append(b, tables...)
		if r.Intn(2) == 0 {
			b[r.Intn(len(b))] += byte(r.Intn(5) - 2)
		}
		if sameFeatures(t, b, r.Intn(10)/9*2, 5+r.Intn(6)) {
			right++
		}
	}
	if right < 10000 || right > 50000 {
		t.Errorf("%d of 60000 are features", right)
	}
}
