package itemise

import "slices"

// room is how many opening brackets wait at most.
const room = 64

// opening is an opening bracket that waits: the closing one that it is put for,
// and its script.
type opening struct {
	closing rune
	script  uint8
}

// stack is the opening brackets that wait.
type stack struct {
	open  [room]opening
	count int
}

// put lets an opening bracket wait, if there is room.
func (s *stack) put(closing rune, script uint8) {
	if s.count < len(s.open) {
		s.open[s.count] = opening{closing: closing, script: script}
		s.count++
	}
}

// take tells the script of the last one that waits for this closing bracket, and
// takes it, with all put behind it; false, if there is none.
func (s *stack) take(closing rune) (uint8, bool) {
	for under, o := range slices.Backward(s.open[:s.count]) {
		if o.closing == closing {
			s.count = under
			return o.script, true
		}
	}
	return 0, false
}
