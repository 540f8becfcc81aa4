package resolve

import "calamus/api"

// resolveNeutral does N1 and N2.
func resolveNeutral(row []api.Class, side, sos, eos api.Class) {
	ahead := sos
	for at := 0; at < len(row); at++ {
		end := endOf(row, at, neutral)
		behind := eos
		if end < len(row) {
			behind = direction(row[end])
		}
		fill(row[at:end], between(ahead, behind, side))
		at, ahead = end, behind
	}
}

// between tells what neutral classes between two directions become.
func between(ahead, behind, side api.Class) api.Class {
	if ahead == behind && ahead != none {
		return ahead
	}
	return side
}
