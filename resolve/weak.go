package resolve

import "calamus/api"

// resolveMarks does W1.
func resolveMarks(row []api.Class, sos api.Class) {
	ahead := sos
	for at, c := range row {
		if c == api.NSM {
			row[at] = ahead
		}
		ahead = row[at]
		if isolates(ahead) {
			ahead = api.ON
		}
	}
}

// resolveArabic does W2 and W3.
func resolveArabic(row []api.Class, sos api.Class) {
	strong := sos
	for at, c := range row {
		switch c {
		case api.L, api.R:
			strong = c
		case api.AL:
			strong = c
			row[at] = api.R
		case api.EN:
			if strong == api.AL {
				row[at] = api.AN
			}
		}
	}
}

// resolveNumbers does W4 to W7 in one pass. What stands ahead is remembered as W4
// leaves it, for neither W4 nor W5 may see what the rules behind them have made.
func resolveNumbers(row []api.Class, sos api.Class) {
	strong, ahead := sos, none
	at := 0
on:
	for at < len(row) {
		c := row[at]
		switch c {
		case api.L, api.R:
			strong = c
		case api.ES, api.CS:
			c = separated(ahead, c, classAt(row, at+1))
		case api.ET:
			end := endOf(row, at, terminates)
			if ahead == api.EN || classAt(row, end) == api.EN {
				c = api.EN
			}
			fill(row[at:end], settled(c, strong))
			at, ahead = end, api.ET
			goto on
		}
		row[at] = settled(c, strong)
		at, ahead = at+1, c
	}
}

// classAt tells the class at a place; none, behind the end.
func classAt(row []api.Class, at int) api.Class {
	if at < len(row) {
		return row[at]
	}
	return none
}

// terminates: does it stand behind a number, or ahead of one?
func terminates(c api.Class) bool { return c == api.ET }

// separated tells what an ES or CS between two classes becomes by W4.
func separated(ahead, c, behind api.Class) api.Class {
	switch {
	case ahead != behind:
		return c
	case ahead == api.EN, ahead == api.AN && c == api.CS:
		return ahead
	}
	return c
}

// settled tells what a class behind W5 becomes by W6 and W7.
func settled(c, strong api.Class) api.Class {
	switch c {
	case api.ES, api.ET, api.CS:
		return api.ON
	case api.EN:
		if strong == api.L {
			return api.L
		}
	}
	return c
}
