package cluster_test

import (
	"math/rand"
	"slices"

	"calamus/ucd"
)

// is: has the character at that place one of these classes? None has one that
// is not there.
func is(l []rune, at int, classes ...uint8) bool {
	return at >= 0 && at < len(l) && slices.Contains(classes, ucd.Cluster(l[at]))
}

// joinsPict: do a Pict, Extends (or none) and a ZWJ stand ahead of a place?
func joinsPict(l []rune, at int) bool {
	if !is(l, at-1, ucd.ClusterZWJ) {
		return false
	}
	at -= 2
	for is(l, at, ucd.ClusterExtend) {
		at--
	}
	return is(l, at, ucd.ClusterPict)
}

// oddFlags: does an odd number of RI stand ahead of a place?
func oddFlags(l []rune, at int) bool {
	n := 0
	for is(l, at-1-n, ucd.ClusterRI) {
		n++
	}
	return n%2 == 1
}

// partedByTable tells by the words of the chapter's table whether two
// characters are parted; at is the place of the one behind.
func partedByTable(l []rune, at int) bool {
	ahead := func(classes ...uint8) bool { return is(l, at-1, classes...) }
	behind := func(classes ...uint8) bool { return is(l, at, classes...) }
	switch {
	case ahead(ucd.ClusterCR) && behind(ucd.ClusterLF):
		return false
	case ahead(ucd.ClusterCR, ucd.ClusterLF, ucd.ClusterControl):
		return true
	case behind(ucd.ClusterCR, ucd.ClusterLF, ucd.ClusterControl):
		return true
	case ahead(ucd.ClusterHL) && behind(ucd.ClusterHL, ucd.ClusterHV, ucd.ClusterLV, ucd.ClusterLVT):
		return false
	case ahead(ucd.ClusterLV, ucd.ClusterHV) && behind(ucd.ClusterHV, ucd.ClusterHT):
		return false
	case ahead(ucd.ClusterLVT, ucd.ClusterHT) && behind(ucd.ClusterHT):
		return false
	case behind(ucd.ClusterExtend, ucd.ClusterZWJ):
		return false
	case ahead(ucd.ClusterPrepend):
		return false
	case joinsPict(l, at) && behind(ucd.ClusterPict):
		return false
	case oddFlags(l, at) && behind(ucd.ClusterRI):
		return false
	}
	return true
}

// boundsByTable tells by the chapter's table where clusters begin.
func boundsByTable(l []rune) []int {
	var starts []int
	for at := range l {
		if at == 0 || partedByTable(l, at) {
			starts = append(starts, at)
		}
	}
	return starts
}

// everyText goes through all texts of n characters out of some.
func everyText(of []rune, n int, each func(l []rune)) {
	l := make([]rune, n)
	var fill func(at int)
	fill = func(at int) {
		if at == n {
			each(l)
			return
		}
		for _, r := range of {
			l[at] = r
			fill(at + 1)
		}
	}
	fill(0)
}

// someTexts goes through texts of characters from anywhere, most of which have
// a class of their own.
func someTexts(n int, each func(l []rune)) {
	often := []rune{
		'a', 0x4E00, 0xD, 0xA, 0, 0xAD, 0x200B, 0x2028, 0xFEFF, 0x301, 0x64E, 0x200C, 0xFE0F, 0x1F3FB, 0xE0100, 0x200D, 0x200D,
		0x1F1E6, 0x1F1FF, 0x600, 0x605, 0x6DD, 0x1100, 0x115F, 0x1160, 0x11A7, 0x11A8, 0x11FF, 0xAC00, 0xAC1C, 0xAC01, 0xD7A3,
		0xA9, 0xAE, 0x203C, 0x1F300, 0x1F3FA, 0x1F400, 0x1F64F, -1, 0x110000,
	}
	random := rand.New(rand.NewSource(3))
	for range n {
		var l []rune
		for range random.Intn(40) {
			r := rune(random.Uint32() >> random.Intn(32))
			if random.Intn(8) > 0 {
				r = often[random.Intn(len(often))]
			}
			for range 1 + random.Intn(3)*random.Intn(2) {
				l = append(l, r)
			}
		}
		each(l)
	}
}
