package itemise

import (
	"iter"

	"calamus/api"
	"calamus/ucd"
)

// parts tells from where to where each part of a text goes: up to and with a
// separator, or up to the end. Behind a separator at the end there is none.
func parts(l []rune) iter.Seq2[int, int] {
	return func(yield func(from, to int) bool) {
		from := 0
		for at, r := range l {
			to := at + 1
			if ucd.Class(r) != api.B && to < len(l) {
				continue
			}
			if !yield(from, to) {
				return
			}
			from = to
		}
	}
}
