package itemise

import (
	"calamus/api"
	"calamus/ucd"
)

// own tells a character's own script, or Common, if it has none.
func own(r rune) uint8 {
	if script := ucd.Script(r); script != api.Inherited {
		return script
	}
	return api.Common
}

// firstOwn tells the first own script in a part, or Common, if it has none.
func firstOwn(part []rune) uint8 {
	for _, r := range part {
		if script := own(r); script != api.Common {
			return script
		}
	}
	return api.Common
}

// past is the script by now, and the brackets that wait.
type past struct {
	script  uint8
	waiting stack
}

// read goes on behind one more character.
func (p *past) read(r rune) {
	if script := own(r); script != api.Common {
		p.script = script
	}
	switch closing, opens, ok := ucd.Bracket(r); {
	case !ok:
	case opens:
		p.waiting.put(closing, p.script)
	default:
		if script, ok := p.waiting.take(closing); ok {
			p.script = script
		}
	}
}

// setScripts sets the scripts of a part's characters.
func setScripts(scripts []uint8, part []rune) {
	// Up to the first own script all have that one, brackets too: so it may be the
	// script by now from the beginning, and no character has to look ahead.
	now := past{script: firstOwn(part)}
	for at, r := range part {
		now.read(r)
		scripts[at] = now.script
	}
}
