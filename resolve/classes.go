package resolve

import "calamus/api"

// none is the class of what has none: of a side, of a direction, of what stands
// ahead of a row.
const none api.Class = 0

// edgeOf tells what a row's sos or eos counts as.
func edgeOf(c api.Class) api.Class {
	if c == api.R {
		return api.R
	}
	return api.L
}

// sideOf tells the side of a row of that level.
func sideOf(level uint8) api.Class {
	if level%2 == 1 {
		return api.R
	}
	return api.L
}

// direction tells that of a class, which is its side as well.
func direction(c api.Class) api.Class {
	switch c {
	case api.L:
		return api.L
	case api.R, api.EN, api.AN:
		return api.R
	}
	return none
}

// above tells by how much what is of a class stands above its row's level.
func above(c api.Class, level uint8) uint8 {
	switch {
	case c == api.EN || c == api.AN:
		return 2 - level%2
	case direction(c) == none || c == sideOf(level):
		return 0
	}
	return 1
}

// isolates: does it begin an isolate, or end one?
func isolates(c api.Class) bool { return c >= api.LRI && c <= api.PDI }

// neutral: is it one of the neutral classes?
func neutral(c api.Class) bool {
	switch c {
	case api.B, api.S, api.WS, api.ON:
		return true
	}
	return isolates(c)
}

// dense tells a row without its BN, which the rules pass over.
func dense(l []api.Class) []api.Class {
	row := make([]api.Class, 0, len(l))
	for _, c := range l {
		if c != api.BN {
			row = append(row, c)
		}
	}
	return row
}

// spread tells a dense row with the BN of the row that it was made of.
func spread(l, row []api.Class) []api.Class {
	all := make([]api.Class, len(l))
	next := 0
	for at, c := range l {
		if c == api.BN {
			all[at] = c
			continue
		}
		all[at] = row[next]
		next++
	}
	return all
}

// fill lets all of a row be of one class.
func fill(row []api.Class, c api.Class) {
	for at := range row {
		row[at] = c
	}
}

// endOf tells where those end that stand together from a place on and are as
// asked for.
func endOf(row []api.Class, from int, asked func(c api.Class) bool) int {
	end := from
	for end < len(row) && asked(row[end]) {
		end++
	}
	return end
}
