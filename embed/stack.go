package embed

import "calamus/api"

// entry is what a control has begun; it points to what it stands in.
type entry struct {
	in       *entry
	level    uint8
	override api.Class
	isolate  bool
}

// next tells the level of what begins in it, of that side.
func (x *entry) next(side api.Class) uint8 {
	if side == api.R {
		return (x.level + 1) | 1
	}
	return (x.level + 2) &^ 1
}

// stack is the last entry, and what is counted.
type stack struct {
	last           *entry
	isolates       int
	overIsolates   int
	overEmbeddings int
}

// stackOf tells the stack as it is at first, of a paragraph of that level.
func stackOf(level uint8) stack { return stack{last: &entry{level: level}} }

// push puts an entry of that side; false, if that may not be.
func (s *stack) push(side, override api.Class, isolate bool) bool {
	level := s.last.next(side)
	if level > api.MaxLevel || s.overIsolates > 0 || s.overEmbeddings > 0 {
		return false
	}
	s.last = &entry{in: s.last, level: level, override: override, isolate: isolate}
	return true
}

// beginEmbedding puts an embedding, or counts one that may not be.
func (s *stack) beginEmbedding(side, override api.Class) {
	if !s.push(side, override, false) && s.overIsolates == 0 {
		s.overEmbeddings++
	}
}

// endEmbedding takes the last entry, if it is an embedding.
func (s *stack) endEmbedding() {
	switch {
	case s.overIsolates > 0:
	case s.overEmbeddings > 0:
		s.overEmbeddings--
	case !s.last.isolate && s.last.in != nil:
		s.last = s.last.in
	}
}

// beginIsolate puts an isolate, or counts one that may not be.
func (s *stack) beginIsolate(side api.Class) {
	if s.push(side, none, true) {
		s.isolates++
	} else {
		s.overIsolates++
	}
}

// endIsolate takes the last isolate, with the embeddings in it.
func (s *stack) endIsolate() {
	switch {
	case s.overIsolates > 0:
		s.overIsolates--
	case s.isolates > 0:
		for !s.last.isolate {
			s.last = s.last.in
		}
		s.last = s.last.in
		s.overEmbeddings = 0
		s.isolates--
	}
}
