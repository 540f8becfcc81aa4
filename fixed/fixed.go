// Package fixed is layer 1: lengths as integers. See shared/doc/01-fixed.md.
package fixed

import (
	"strconv"
	"strings"

	"calamus/api"
)

// longest is how many bytes a text of points may have.
const longest = 40

// Half a scaled point has 17 decimals: what a text has behind them cannot
// change how it is rounded.
const (
	places = 17
	unit   = 100_000_000_000_000_000 // 10 to the power of places
)

// Add tells a sum.
func Add(a, b int64) (n int64, e api.Errno) {
	defer func() { n, e = outcome(n, recover()) }()
	sum := a + b
	if (a^sum)&(b^sum) < 0 {
		panic(api.ErrFlow)
	}
	return sum, api.OK
}

// Sub tells a difference.
func Sub(a, b int64) (n int64, e api.Errno) {
	defer func() { n, e = outcome(n, recover()) }()
	rest := a - b
	if (a^b)&(a^rest) < 0 {
		panic(api.ErrFlow)
	}
	return rest, api.OK
}

// MulDiv tells a quotient of a product, floored.
func MulDiv(a, b, c int64) (n int64, e api.Errno) {
	defer func() { n, e = outcome(n, recover()) }()
	return floored(a, b, c), api.OK
}

// Round tells a quotient of a product, rounded.
func Round(a, b, c int64) (n int64, e api.Errno) {
	defer func() { n, e = outcome(n, recover()) }()
	return rounded(a, b, c), api.OK
}

// Ratio tells a quotient in scaled points, rounded.
func Ratio(a, b int64) (int64, api.Errno) { return Round(a, api.Point, b) }

// Scale tells units of an em of a size, rounded.
func Scale(units, size int64, em uint16) (int64, api.Errno) {
	return Round(units, size, int64(em))
}

// Print tells scaled points as decimals of points.
func Print(sp int64) string {
	var out strings.Builder
	if sp < 0 {
		out.WriteByte('-')
	}
	whole, part := magnitude(sp)/api.Point, magnitude(sp)%api.Point
	out.WriteString(strconv.FormatUint(whole, 10))
	if part != 0 {
		out.WriteByte('.')
	}
	for part != 0 {
		part *= 10
		out.WriteByte(byte('0' + part/api.Point))
		part %= api.Point
	}
	return out.String()
}

// Read tells the scaled points of decimals.
func Read(s string) (n int64, e api.Errno) {
	defer func() { n, e = outcome(n, recover()) }()
	below, whole, part := split(s)
	points := product(value(whole), api.Point)
	return points.plus(scaledPart(part)).number(below), api.OK
}

// outcome tells a face's answer: the number, or the error that ended the work.
func outcome(n int64, gone any) (int64, api.Errno) {
	if gone == nil {
		return n, api.OK
	}
	return 0, gone.(api.Errno)
}

// floored tells the greatest integer that is not above a b / c.
func floored(a, b, c int64) int64 {
	below := a^b^c < 0
	return quotient(a, b, c, func(rest uint64) bool { return below && rest != 0 })
}

// rounded tells the integer nearest to a b / c; of two the one farther from 0.
func rounded(a, b, c int64) int64 {
	divisor := magnitude(c)
	return quotient(a, b, c, func(rest uint64) bool { return rest >= divisor-rest })
}

// quotient tells a b / c cut toward 0, or one farther from 0, if more says so
// of the rest.
func quotient(a, b, c int64, more func(rest uint64) bool) int64 {
	if c == 0 {
		panic(api.ErrArg)
	}
	whole, rest := product(magnitude(a), magnitude(b)).over(magnitude(c))
	if more(rest) {
		whole = whole.plus(1)
	}
	return whole.number(a^b^c < 0)
}

// split tells the parts of a text of points: whether it is below 0, and its
// digits ahead of the point and behind it.
func split(s string) (below bool, whole, part string) {
	if len(s) > longest {
		panic(api.ErrArg)
	}
	s, below = strings.CutPrefix(s, "-")
	whole, part, pointed := strings.Cut(s, ".")
	if !digits(whole) || pointed && !digits(part) {
		panic(api.ErrArg)
	}
	return below, whole, part
}

// digits: is a text one or more digits?
func digits(s string) bool {
	for i := range len(s) {
		if s[i] < '0' || s[i] > '9' {
			return false
		}
	}
	return s != ""
}

// value tells the number of digits.
func value(s string) uint64 {
	n, err := strconv.ParseUint(s, 10, 64)
	if err != nil { // they are digits, so they can only be too many
		panic(api.ErrFlow)
	}
	return n
}

// scaledPart tells the scaled points of the digits behind a point, rounded.
func scaledPart(s string) uint64 {
	s = (s + strings.Repeat("0", places))[:places]
	return uint64(rounded(int64(value(s)), api.Point, unit))
}
