package embed_test

import (
	"slices"

	"calamus/api"
	"calamus/embed"
)

// The chapter's words, done one by one, without regard to what they cost.

// has: is the class among these?
func has(c api.Class, among ...api.Class) bool { return slices.Contains(among, c) }

// isInitiator, isRemoved: the chapter's words.
func isInitiator(c api.Class) bool { return has(c, api.LRI, api.RLI, api.FSI) }
func isRemoved(c api.Class) bool {
	return has(c, api.LRE, api.RLE, api.LRO, api.RLO, api.PDF, api.BN)
}

// pdiOf tells the PDI of the initiator at a place; -1, if it has none.
func pdiOf(l []api.Class, at int) int {
	open := 1
	for i := at + 1; i < len(l) && l[i] != api.B; i++ {
		if isInitiator(l[i]) {
			open++
		}
		if l[i] == api.PDI {
			open--
		}
		if open == 0 {
			return i
		}
	}
	return -1
}

// isolateEnd tells where the isolate of the initiator at a place ends.
func isolateEnd(l []api.Class, at int) int {
	if end := pdiOf(l, at); end >= 0 {
		return end
	}
	if far := slices.Index(l[at:], api.B); far >= 0 {
		return at + far
	}
	return len(l)
}

// matchByWords is what Match should tell.
func matchByWords(l []api.Class) []int {
	pairs := slices.Repeat([]int{-1}, len(l))
	for at, c := range l {
		if !isInitiator(c) {
			continue
		}
		if pdi := pdiOf(l, at); pdi >= 0 {
			pairs[at], pairs[pdi] = pdi, at
		}
	}
	return pairs
}

// inIsolate: does a place stand in an isolate?
func inIsolate(l []api.Class, at int) bool {
	for i := range at {
		if isInitiator(l[i]) && at <= isolateEnd(l, i) {
			return true
		}
	}
	return false
}

// baseByWords is what Base should tell.
func baseByWords(l []api.Class) uint8 {
	for at, c := range l {
		switch {
		case c == api.B:
			return 0
		case has(c, api.L, api.R, api.AL) && !inIsolate(l, at):
			return uint8(min(c-api.L, 1))
		}
	}
	return 0
}

// put is an entry of the stack.
type put struct {
	level    int
	override api.Class
	isolate  bool
}

// machine is the stack and what is counted.
type machine struct {
	entries                      []put
	isolates, embeddings, valids int
}

// top tells the last entry.
func (m *machine) top() put { return m.entries[len(m.entries)-1] }

// pop takes the last entry.
func (m *machine) pop() { m.entries = m.entries[:len(m.entries)-1] }

// push puts one of a side, whose levels are odd or even.
func (m *machine) push(odd bool, override api.Class, isolate bool) bool {
	level := m.top().level + 1
	if level%2 == 1 != odd {
		level++
	}
	ok := level <= 125 && m.isolates == 0 && m.embeddings == 0
	if ok {
		m.entries = append(m.entries, put{level, override, isolate})
	}
	return ok
}

// control does what LRE, LRO, RLE, RLO, PDF ask for.
func (m *machine) control(c api.Class) {
	override := map[api.Class]api.Class{api.LRO: api.L, api.RLO: api.R}[c]
	switch {
	case c != api.PDF:
		if !m.push(has(c, api.RLE, api.RLO), override, false) && m.isolates == 0 {
			m.embeddings++
		}
	case m.isolates > 0:
	case m.embeddings > 0:
		m.embeddings--
	case !m.top().isolate && len(m.entries) > 1:
		m.pop()
	}
}

// end does what a PDI asks for.
func (m *machine) end() {
	if m.isolates > 0 {
		m.isolates--
		return
	}
	if m.valids > 0 {
		m.embeddings = 0
		for !m.top().isolate {
			m.pop()
		}
		m.pop()
		m.valids--
	}
}

// levelsByWords is what Levels should tell of classes and a base that may be.
func levelsByWords(l []api.Class, base uint8) (levels []uint8, classes []api.Class, paragraph uint8) {
	if base == 2 {
		base = baseByWords(l)
	}
	fresh := machine{entries: []put{{level: int(base)}}}
	m := fresh
	for at, c := range l {
		if c == api.PDI {
			m.end()
		}
		level, class := uint8(m.top().level), c
		switch {
		case isRemoved(c):
			class, level = api.BN, base
			if at > 0 {
				level = levels[at-1]
			}
		case c == api.B:
			level = base
		case m.top().override != 0:
			class = m.top().override
		}
		levels, classes = append(levels, level), append(classes, class)
		switch {
		case c == api.B:
			m = fresh
		case isInitiator(c):
			odd := c == api.RLI || c == api.FSI && baseByWords(l[at+1:isolateEnd(l, at)]) == 1
			if m.push(odd, 0, true) {
				m.valids++
			} else {
				m.isolates++
			}
		case isRemoved(c) && c != api.BN:
			m.control(c)
		}
	}
	return levels, classes, base
}

// runsByWords tells the runs, each by its places.
func runsByWords(l []api.Class, levels []uint8) [][]int {
	var runs [][]int
	for at, c := range l {
		if isRemoved(c) {
			continue
		}
		if n := len(runs) - 1; n >= 0 && levels[runs[n][0]] == levels[at] {
			runs[n] = append(runs[n], at)
		} else {
			runs = append(runs, []int{at})
		}
	}
	return runs
}

// leadsTo tells the run that a run leads to; -1, if there is none.
func leadsTo(l []api.Class, runs [][]int, run []int) int {
	last := run[len(run)-1]
	if !isInitiator(l[last]) {
		return -1
	}
	pdi := pdiOf(l, last)
	return slices.IndexFunc(runs, func(other []int) bool { return other[0] == pdi })
}

// greater tells R, if the greater one of two levels is odd; else L.
func greater(a, b uint8) api.Class {
	if max(a, b)&1 != 0 {
		return api.R
	}
	return api.L
}

// besides tells the level of the place that stands so many places behind another
// one, the removed ones left out; the paragraph's, if there is none.
func besides(l []api.Class, levels []uint8, at, by int, base uint8) uint8 {
	for at += by; at >= 0 && at < len(l); at += by {
		if !isRemoved(l[at]) {
			return levels[at]
		}
	}
	return base
}

// sequencesByWords is what Sequences should tell of as many levels as classes.
func sequencesByWords(l []api.Class, levels []uint8, base uint8) []embed.Seq {
	runs := runsByWords(l, levels)
	led := map[int]bool{}
	for _, run := range runs {
		led[leadsTo(l, runs, run)] = true
	}
	var all []embed.Seq
	for i := range runs {
		if led[i] {
			continue
		}
		var s embed.Seq
		for at := i; at >= 0; at = leadsTo(l, runs, runs[at]) {
			s.Places = append(s.Places, runs[at]...)
		}
		first, last := s.Places[0], s.Places[len(s.Places)-1]
		s.Level = levels[first]
		s.Sos = greater(s.Level, besides(l, levels, first, -1, base))
		behind := besides(l, levels, last, 1, base)
		if isInitiator(l[last]) && pdiOf(l, last) < 0 {
			behind = base
		}
		s.Eos = greater(levels[last], behind)
		all = append(all, s)
	}
	return all
}
