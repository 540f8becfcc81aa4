package cluster

import "calamus/ucd"

// set is classes, a bit each.
type set uint16

// setOf tells the set of classes.
func setOf(classes ...uint8) set {
	var s set
	for _, c := range classes {
		s |= 1 << c
	}
	return s
}

// has: is a class in the set?
func (s set) has(class uint8) bool { return s>>class&1 != 0 }

// past is what the rules ask of the characters ahead of a place. It is carried
// along, so that no rule has to go back.
type past struct {
	last   uint8 // the class of the last one
	pict   bool  // a Pict and Extends, or none, end them
	joined bool  // such a row and a ZWJ end them
	odd    bool  // an odd number of RI end them
}

// with tells the past behind one more character.
func (p past) with(class uint8) past {
	return past{
		last:   class,
		pict:   class == ucd.ClusterPict || p.pict && class == ucd.ClusterExtend,
		joined: p.pict && class == ucd.ClusterZWJ,
		odd:    class == ucd.ClusterRI && !p.odd,
	}
}

// rule says whether two characters are parted, if it tells of what stands ahead
// and of the class behind.
type rule struct {
	ahead  func(p past) bool
	behind func(class uint8) bool
	parted bool
}

// rules tells the chapter's table: the first rule that tells of two characters
// counts.
func rules() []rule {
	after := func(classes ...uint8) func(past) bool {
		s := setOf(classes...)
		return func(p past) bool { return s.has(p.last) }
	}
	of := func(classes ...uint8) func(uint8) bool {
		s := setOf(classes...)
		return func(class uint8) bool { return s.has(class) }
	}
	afterAny := func(past) bool { return true }
	anyClass := func(uint8) bool { return true }
	joined := func(p past) bool { return p.joined }
	odd := func(p past) bool { return p.odd }
	return []rule{
		{after(ucd.ClusterCR), of(ucd.ClusterLF), false},                                               // 3
		{after(ucd.ClusterCR, ucd.ClusterLF, ucd.ClusterControl), anyClass, true},                      // 4
		{afterAny, of(ucd.ClusterCR, ucd.ClusterLF, ucd.ClusterControl), true},                         // 5
		{after(ucd.ClusterHL), of(ucd.ClusterHL, ucd.ClusterHV, ucd.ClusterLV, ucd.ClusterLVT), false}, // 6
		{after(ucd.ClusterLV, ucd.ClusterHV), of(ucd.ClusterHV, ucd.ClusterHT), false},                 // 7
		{after(ucd.ClusterLVT, ucd.ClusterHT), of(ucd.ClusterHT), false},                               // 8
		{afterAny, of(ucd.ClusterExtend, ucd.ClusterZWJ), false},                                       // 9
		{after(ucd.ClusterPrepend), anyClass, false},                                                   // 9b
		{joined, of(ucd.ClusterPict), false},                                                           // 11
		{odd, of(ucd.ClusterRI), false},                                                                // 12, 13
		{afterAny, anyClass, true},                                                                     // 999
	}
}
