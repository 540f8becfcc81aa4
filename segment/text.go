package segment

import "calamus/ucd"

// The quotes that open, and those that close.
const (
	openingQuotes = "\u00AB\u2018\u201B\u201C\u201F\u2039"
	closingQuotes = "\u00BB\u2019\u201D\u203A"
)

// text is characters, with the classes of the units that begin at them. A unit is
// named by the place of its first character; -1 and the text's length name one
// that there is not.
type text struct {
	characters []rune
	classes    []uint8
}

// textOf tells the text of characters.
func textOf(l []rune) text {
	joins := setOf(ucd.BreakCM, ucd.BreakZWJ)
	apart := setOf(ucd.BreakBK, ucd.BreakCR, ucd.BreakLF, ucd.BreakNL, ucd.BreakSP, ucd.BreakZW)
	classes := make([]uint8, len(l))
	alone := true // what stands ahead takes no CM in
	for at, r := range l {
		class := ucd.Break(r)
		switch {
		case !joins.has(class):
			alone = apart.has(class)
		case alone:
			class, alone = ucd.BreakAL, false
		default:
			class = inside
		}
		classes[at] = class
	}
	return text{characters: l, classes: classes}
}

// there: is there such a unit?
func (t *text) there(unit int) bool { return unit >= 0 && unit < len(t.classes) }

// next tells the unit behind one, or behind none at the beginning.
func (t *text) next(unit int) int {
	unit++
	for unit < len(t.classes) && t.classes[unit] == inside {
		unit++
	}
	return min(unit, len(t.classes))
}

// is: has a unit one of these classes?
func (t *text) is(unit int, classes ...uint8) bool {
	class := absent
	if t.there(unit) {
		class = t.classes[unit]
	}
	return setOf(classes...).has(class)
}

// begins: does a unit begin with that character?
func (t *text) begins(unit int, r rune) bool { return t.there(unit) && t.characters[unit] == r }

// wide: is a unit wide? None that there is not is wide.
func (t *text) wide(unit int) bool { return t.there(unit) && ucd.Wide(t.characters[unit]) }

// opens: is a unit an opening quote?
func (t *text) opens(unit int) bool { return t.quotes(unit, openingQuotes) }

// closes: is a unit a closing quote?
func (t *text) closes(unit int) bool { return t.quotes(unit, closingQuotes) }

// quotes: is a unit one of these quotes?
func (t *text) quotes(unit int, those string) bool {
	if !t.is(unit, ucd.BreakQU) {
		return false
	}
	for _, quote := range those {
		if t.characters[unit] == quote {
			return true
		}
	}
	return false
}
