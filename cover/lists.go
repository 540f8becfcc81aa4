package cover

import (
	"slices"

	"calamus/api"
	"calamus/bin"
)

// The bits that a lookup's flag may have, and those of them that are told.
const (
	knownFlags = 15
	toldFlags  = 14
)

// tagAt tells the name at that place.
func tagAt(r *bin.Reader, at int) api.Tag {
	return api.Tag{r.Byte(at), r.Byte(at + 1), r.Byte(at + 2), r.Byte(at + 3)}
}

// featureAt tells the lookups of the feature at that place; false, if there is
// none, or r was bad.
func featureAt(r *bin.Reader, at, lookups int) (api.Feature, bool) {
	words := r.Words(at+4, int(r.Word(at+2)))
	if r.Word(at) != 0 || r.Bad() {
		return api.Feature{}, false
	}
	slices.Sort(words)
	var f api.Feature
	for _, w := range slices.Compact(words) {
		if int(w) >= lookups {
			return api.Feature{}, false
		}
		f.Lookups = append(f.Lookups, int(w))
	}
	return f, true
}

// lookupAt tells the lookup at that place; false, if there is none, or r was
// bad.
func lookupAt(r *bin.Reader, at int) (Subtable, bool) {
	flag, n := r.Word(at+2), int(r.Word(at+4))
	if flag&^knownFlags != 0 || n < 1 || n > mostSubtables {
		return Subtable{}, false
	}
	s := Subtable{Type: r.Word(at), Flag: flag & toldFlags}
	for _, place := range r.Words(at+6, n) {
		s.At = append(s.At, at+int(place))
	}
	return s, !r.Bad()
}
