package ucd

import (
	"sync"

	"calamus/api"
)

// The tables in two stages, beside the faces, which do without them: each is
// laid when it is asked first, once, out of the ranges that the faces have
// written out.
var (
	classOnce   sync.Once
	mirrorOnce  sync.Once
	joiningOnce sync.Once
	breakOnce   sync.Once
	clusterOnce sync.Once
	scriptOnce  sync.Once
	wideOnce    sync.Once
	spaceOnce   sync.Once

	classTable   stages
	mirrorTable  stages
	joiningTable stages
	breakTable   stages
	clusterTable stages
	scriptTable  stages
	wideTable    stages
	spaceTable   stages
)

// Entry is what the tables hold of a character. Mirror is the character itself,
// if it has none.
type Entry struct {
	Class                           api.Class
	Mirror                          rune
	Joining, Break, Cluster, Script uint8
	Wide, Space                     bool
}

// Tabled tells what the tables in two stages hold of a character: what the
// faces tell of it one by one.
func Tabled(r rune) Entry {
	layTables()
	return Entry{
		Class:   api.Class(classTable.at(r)),
		Mirror:  tabledMirror(r),
		Joining: joiningTable.at(r),
		Break:   breakTable.at(r),
		Cluster: clusterTable.at(r),
		Script:  scriptTable.at(r),
		Wide:    wideTable.at(r) != 0,
		Space:   spaceTable.at(r) != 0,
	}
}

// layTables makes the tables, if that has not been done.
func layTables() {
	classOnce.Do(func() { classTable = laid(func(r rune) uint8 { return uint8(Class(r)) }) })
	mirrorOnce.Do(func() { mirrorTable = laid(func(r rune) uint8 { return uint8(mirrorPlace(r) + 1) }) })
	joiningOnce.Do(func() { joiningTable = laid(Joining) })
	breakOnce.Do(func() { breakTable = laid(Break) })
	clusterOnce.Do(func() { clusterTable = laid(Cluster) })
	scriptOnce.Do(func() { scriptTable = laid(Script) })
	wideOnce.Do(func() { wideTable = laid(asNumber(Wide)) })
	spaceOnce.Do(func() { spaceTable = laid(asNumber(Space)) })
}

// tabledMirror tells a character's mirror by its table, which holds one more
// than the place among the mirrors.
func tabledMirror(r rune) rune {
	place := int(mirrorTable.at(r)) - 1
	if place < 0 {
		return r
	}
	return mirrors[place^1]
}

// asNumber tells 1 of characters of which is holds, of others 0.
func asNumber(is func(r rune) bool) func(r rune) uint8 {
	return func(r rune) uint8 {
		if is(r) {
			return 1
		}
		return 0
	}
}
