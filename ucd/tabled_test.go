package ucd_test

import (
	"math"
	"testing"

	"calamus/api"
	"calamus/ucd"
)

// The tables in two stages hold what the faces tell, of every rune.
func TestTabled(t *testing.T) {
	everyRune(func(r rune) {
		mirror, _ := ucd.Mirror(r)
		want := ucd.Entry{
			Class: ucd.Class(r), Mirror: mirror, Joining: ucd.Joining(r), Break: ucd.Break(r), Cluster: ucd.Cluster(r),
			Script: ucd.Script(r), Wide: ucd.Wide(r), Space: ucd.Space(r),
		}
		if e := ucd.Tabled(r); e != want {
			t.Fatalf("Tabled(%X) = %+v, want %+v", r, e, want)
		}
	})
}

// The same, by hand.
func TestTabledByHand(t *testing.T) {
	for r, want := range map[rune]ucd.Entry{
		0x28:          {Class: api.ON, Mirror: 0x29, Break: ucd.BreakOP},
		0x2329:        {Class: api.ON, Mirror: 0x232A, Break: ucd.BreakOP},
		0x64E:         {Class: api.NSM, Mirror: 0x64E, Joining: api.JoinPass, Break: ucd.BreakCM, Cluster: ucd.ClusterExtend, Script: api.Inherited},
		0x628:         {Class: api.AL, Mirror: 0x628, Joining: api.JoinDual, Script: api.Arabic},
		0x3000:        {Class: api.WS, Mirror: 0x3000, Break: ucd.BreakBA, Wide: true, Space: true},
		0xAC1C:        {Class: api.L, Mirror: 0xAC1C, Break: ucd.BreakH2, Cluster: ucd.ClusterLV, Script: api.Hangul, Wide: true},
		-1:            {Class: api.L, Mirror: -1},
		0x110028:      {Class: api.L, Mirror: 0x110028},
		math.MinInt32: {Class: api.L, Mirror: math.MinInt32},
		math.MaxInt32: {Class: api.L, Mirror: math.MaxInt32},
	} {
		if e := ucd.Tabled(r); e != want {
			t.Errorf("Tabled(%X) = %+v, want %+v", r, e, want)
		}
	}
}
