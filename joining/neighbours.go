package joining

import (
	"iter"

	"calamus/api"
	"calamus/ucd"
)

// character is the joining types of a character and of its neighbours. Where
// there is no neighbour stands JoinNone, which joins none either.
type character struct {
	ahead, own, behind uint8
}

// neighbours tells of each character that is not of the type JoinPass its place,
// and its type between those of its neighbours.
func neighbours(l []rune) iter.Seq2[int, character] {
	return func(yield func(at int, here character) bool) {
		var here character
		place := -1
		for at, r := range l {
			joining := ucd.Joining(r)
			if joining == api.JoinPass {
				continue
			}
			here.behind = joining
			if place >= 0 && !yield(place, here) {
				return
			}
			place, here = at, character{ahead: here.own, own: joining}
		}
		if place >= 0 {
			yield(place, here)
		}
	}
}

// formsJoined are the forms by whether a character is joined ahead, and then by
// whether it is behind. One that joins on one side alone is never joined on the
// other one, so that they are those of JoinRight and JoinLeft too.
var formsJoined = [2][2]uint8{
	{api.Isolated, api.Initial},
	{api.Final, api.Medial},
}

// form tells a character's form.
func (c character) form() uint8 {
	switch c.own {
	case api.JoinRight, api.JoinDual, api.JoinLeft:
		return formsJoined[number(joins(c.ahead, c.own))][number(joins(c.own, c.behind))]
	}
	return api.FormNone
}

// number tells 1 of what is so, else 0.
func number(so bool) int {
	if so {
		return 1
	}
	return 0
}
