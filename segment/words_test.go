package segment_test

import (
	"strings"

	"calamus/segment"
	"calamus/ucd"
)

// The chapter's words, done one by one: units are made, and at each place between
// two of them the rows of the table are asked in their order.

// classNames are the classes' names, by their numbers, and "none" of a unit that
// there is not.
var classNames = strings.Fields("AL BK CR LF NL SP ZW WJ GL CM ZWJ BA BB B2 HY CB EX IN NS OP CP CL QU IS SY PO PR NU HL ID EB EM RI JL JV JT H2 H3 none")

// unit is one of a text; the zero one is the one that there is not.
type unit struct {
	l     []rune
	class string
}

// is: has a unit one of these classes?
func (u unit) is(names string) bool {
	class := u.class
	if len(u.l) == 0 {
		class = "none"
	}
	for name := range strings.FieldsSeq(names) {
		if name == class {
			return true
		}
	}
	return false
}

// among: does a unit begin with one of these characters?
func (u unit) among(characters ...rune) bool {
	for _, r := range characters {
		if len(u.l) > 0 && u.l[0] == r {
			return true
		}
	}
	return false
}

func (u unit) wide() bool { return len(u.l) > 0 && ucd.Wide(u.l[0]) }

func (u unit) opens() bool {
	return u.is("QU") && u.among(0xAB, 0x2018, 0x201B, 0x201C, 0x201F, 0x2039)
}

func (u unit) closes() bool { return u.is("QU") && u.among(0xBB, 0x2019, 0x201D, 0x203A) }

// unitsOf tells the units of characters.
func unitsOf(l []rune) []unit {
	var units []unit
	for at, r := range l {
		class := classNames[ucd.Break(r)]
		if class == "CM" || class == "ZWJ" {
			if last := len(units) - 1; last >= 0 && !units[last].is("BK CR LF NL SP ZW") {
				units[last].l = l[at-len(units[last].l) : at+1]
				continue
			}
			class = "AL"
		}
		units = append(units, unit{l[at : at+1], class})
	}
	return units
}

// window is the units around a place, by the chapter's names, and what is ahead of
// it.
type window struct {
	o, p, q, n, m, k, j unit
	pNumber, oNumber    bool
	flags               int
}

// windowAt tells the window of the place ahead of a unit.
func windowAt(units []unit, at int) window {
	one := func(at int) unit {
		if at < 0 || at >= len(units) {
			return unit{}
		}
		return units[at]
	}
	var number func(at int) bool
	number = func(at int) bool {
		return one(at).is("NU") || one(at).is("SY IS") && number(at-1)
	}
	k := at - 1
	for one(k).is("SP") {
		k--
	}
	flags := 0
	for one(at - 1 - flags).is("RI") {
		flags++
	}
	w := window{o: one(at - 2), p: one(at - 1), q: one(at), n: one(at + 1), m: one(at + 2), k: one(k), j: one(k - 1)}
	w.pNumber, w.oNumber, w.flags = number(at-1), number(at-2), flags
	return w
}

// row is one of the table.
type row struct {
	number string
	does   uint8
	tells  func(w window) bool
}

// rows are the table.
var rows = []row{
	{"4", segment.Must, func(w window) bool { return w.p.is("BK") }},
	{"5 CR LF", segment.None, func(w window) bool { return w.p.is("CR") && w.q.is("LF") }},
	{"5", segment.Must, func(w window) bool { return w.p.is("CR LF NL") }},
	{"6, 7", segment.None, func(w window) bool { return w.q.is("BK CR LF NL SP ZW") }},
	{"8", segment.May, func(w window) bool { return w.k.is("ZW") }},
	{"8a", segment.None, func(w window) bool { return w.p.l[len(w.p.l)-1] == 0x200D }},
	{"11", segment.None, func(w window) bool { return w.p.is("WJ") || w.q.is("WJ") }},
	{"12", segment.None, func(w window) bool { return w.p.is("GL") }},
	{"12a", segment.None, func(w window) bool { return w.q.is("GL") && !w.p.is("SP BA HY") }},
	{"13", segment.None, func(w window) bool { return w.q.is("CL CP EX SY") }},
	{"14", segment.None, func(w window) bool { return w.k.is("OP") }},
	{"15a", segment.None, func(w window) bool {
		return w.k.opens() && w.j.is("none BK CR LF NL OP QU GL SP ZW")
	}},
	{"15b", segment.None, func(w window) bool {
		return w.q.closes() && w.n.is("none SP GL WJ CL QU CP EX IS SY BK CR LF NL ZW")
	}},
	{"15c", segment.May, func(w window) bool { return w.p.is("SP") && w.q.is("IS") && w.n.is("NU") }},
	{"15d", segment.None, func(w window) bool { return w.q.is("IS") }},
	{"16", segment.None, func(w window) bool { return w.k.is("CL CP") && w.q.is("NS") }},
	{"17", segment.None, func(w window) bool { return w.k.is("B2") && w.q.is("B2") }},
	{"18", segment.May, func(w window) bool { return w.p.is("SP") }},
	{"19 q", segment.None, func(w window) bool { return w.q.is("QU") && !w.q.opens() }},
	{"19 p", segment.None, func(w window) bool { return w.p.is("QU") && !w.p.closes() }},
	{"19a q", segment.None, func(w window) bool {
		return w.q.is("QU") && (!w.p.wide() || w.n.is("none") || !w.n.wide())
	}},
	{"19a p", segment.None, func(w window) bool {
		return w.p.is("QU") && (!w.q.wide() || w.o.is("none") || !w.o.wide())
	}},
	{"20", segment.May, func(w window) bool { return w.p.is("CB") || w.q.is("CB") }},
	{"20a", segment.None, func(w window) bool {
		return (w.p.is("HY") || w.p.among(0x2010)) && w.q.is("AL") && w.o.is("none BK CR LF NL SP ZW CB GL")
	}},
	{"21", segment.None, func(w window) bool { return w.q.is("BA HY NS") || w.p.is("BB") }},
	{"21a", segment.None, func(w window) bool {
		return w.o.is("HL") && (w.p.is("HY") || w.p.is("BA") && !w.p.wide()) && !w.q.is("HL")
	}},
	{"21b", segment.None, func(w window) bool { return w.p.is("SY") && w.q.is("HL") }},
	{"22", segment.None, func(w window) bool { return w.q.is("IN") }},
	{"23", segment.None, func(w window) bool {
		return w.p.is("AL HL") && w.q.is("NU") || w.p.is("NU") && w.q.is("AL HL")
	}},
	{"23a", segment.None, func(w window) bool {
		return w.p.is("PR") && w.q.is("ID EB EM") || w.p.is("ID EB EM") && w.q.is("PO")
	}},
	{"24", segment.None, func(w window) bool {
		return w.p.is("PR PO") && w.q.is("AL HL") || w.p.is("AL HL") && w.q.is("PR PO")
	}},
	{"25 sign behind", segment.None, func(w window) bool {
		return w.q.is("PO PR") && (w.p.is("CL CP") && w.oNumber || w.pNumber)
	}},
	{"25 sign ahead", segment.None, func(w window) bool {
		return w.p.is("PO PR") && (w.q.is("NU") || w.q.is("OP") && (w.n.is("NU") || w.n.is("IS") && w.m.is("NU")))
	}},
	{"25 HY IS", segment.None, func(w window) bool { return w.p.is("HY IS") && w.q.is("NU") }},
	{"25 NU", segment.None, func(w window) bool { return w.pNumber && w.q.is("NU") }},
	{"26", segment.None, func(w window) bool {
		return w.p.is("JL") && w.q.is("JL JV H2 H3") || w.p.is("JV H2") && w.q.is("JV JT") || w.p.is("JT H3") && w.q.is("JT")
	}},
	{"27", segment.None, func(w window) bool {
		return w.p.is("JL JV JT H2 H3") && w.q.is("PO") || w.p.is("PR") && w.q.is("JL JV JT H2 H3")
	}},
	{"28", segment.None, func(w window) bool { return w.p.is("AL HL") && w.q.is("AL HL") }},
	{"29", segment.None, func(w window) bool { return w.p.is("IS") && w.q.is("AL HL") }},
	{"30", segment.None, func(w window) bool {
		return w.p.is("AL HL NU") && w.q.is("OP") && !w.q.wide() || w.p.is("CP") && !w.p.wide() && w.q.is("AL HL NU")
	}},
	{"30a", segment.None, func(w window) bool { return w.p.is("RI") && w.q.is("RI") && w.flags%2 == 1 }},
	{"30b", segment.None, func(w window) bool { return w.p.is("EB") && w.q.is("EM") }},
	{"31", segment.May, func(w window) bool { return true }},
}

// breaksByWords is what Breaks should tell; of each row that counted somewhere,
// told is called with its number.
func breaksByWords(l []rune, told func(number string)) []uint8 {
	units := unitsOf(l)
	breaks := []uint8{}
	for at, u := range units {
		if at > 0 {
			w := windowAt(units, at)
			for _, r := range rows {
				if r.tells(w) {
					breaks = append(breaks, r.does)
					told(r.number)
					break
				}
			}
		} else {
			breaks = append(breaks, segment.None)
		}
		for range len(u.l) - 1 {
			breaks = append(breaks, segment.None)
		}
	}
	return append(breaks, segment.Must)
}
