package cluster_test

import (
	"slices"
	"testing"

	"calamus/cluster"
	"calamus/ucd"
)

// moved tells places, each farther by that many.
func moved(places []int, by int) []int {
	var out []int
	for _, at := range places {
		out = append(out, at+by)
	}
	return out
}

// P3.3: what a cluster holds, alone, is one cluster.
func TestClusterAlone(t *testing.T) {
	someTexts(2000, func(l []rune) {
		b := append(cluster.Bounds(l), len(l))
		for i := range len(b) - 1 {
			if alone := cluster.Bounds(l[b[i]:b[i+1]]); !slices.Equal(alone, []int{0}) {
				t.Fatalf("%X in %X: %d", l[b[i]:b[i+1]], l, alone)
			}
		}
	})
}

// P3.3: behind a Control, an LF, or a CR that no LF follows, the clusters are
// those of what stands there alone.
func TestBehindControls(t *testing.T) {
	someTexts(2000, func(l []rune) {
		for at := 1; at < len(l); at++ {
			if !is(l, at-1, ucd.ClusterControl, ucd.ClusterLF) && (!is(l, at-1, ucd.ClusterCR) || is(l, at, ucd.ClusterLF)) {
				continue
			}
			want := slices.Concat(cluster.Bounds(l[:at]), moved(cluster.Bounds(l[at:]), at))
			if b := cluster.Bounds(l); !slices.Equal(b, want) {
				t.Fatalf("%X, at %d: %d, want %d", l, at, b, want)
			}
		}
	})
}

// P3.3: two texts that are parted, put together, have the clusters of both, but
// where an RI is counted, or a Pict is joined.
func TestTextsTogether(t *testing.T) {
	someTexts(2000, func(l []rune) {
		for at := 1; at < len(l); at++ {
			if !cluster.Parted(l, at) || is(l, at-1, ucd.ClusterRI) && is(l, at, ucd.ClusterRI) {
				continue
			}
			want := slices.Concat(cluster.Bounds(l[:at]), moved(cluster.Bounds(l[at:]), at))
			if b := cluster.Bounds(l); !slices.Equal(b, want) {
				t.Fatalf("%X, at %d: %d, want %d", l, at, b, want)
			}
		}
	})
}

// P3.3: no mark begins a cluster but at the text's beginning, or behind a
// Control, CR or LF.
func TestMarks(t *testing.T) {
	someTexts(2000, func(l []rune) {
		for _, at := range cluster.Bounds(l) {
			if at > 0 && is(l, at, ucd.ClusterExtend) && !is(l, at-1, ucd.ClusterControl, ucd.ClusterCR, ucd.ClusterLF) {
				t.Fatalf("%X, at %d", l, at)
			}
		}
	})
}
