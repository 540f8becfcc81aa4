package sfnt

import (
	"calamus/api"
	"calamus/bin"
)

// fault is what the work is given up with.
type fault struct{ number api.Errno }

// require gives up with that error, unless all is well.
func require(ok bool, number api.Errno) {
	if !ok {
		panic(fault{number})
	}
}

// requireFont gives up, unless what was handed in is still as told.
func requireFont(ok bool) { require(ok, api.ErrFont) }

// requireSound gives up on what is no table: no reader, or a bad one.
func requireSound(r *bin.Reader) { requireFont(!r.Bad()) }

// requireSize gives up on what is no table of so many bytes.
func requireSize(r *bin.Reader, size int) {
	requireSound(r)
	requireFont(r.Len() == size)
}

// outcome tells a face's error: the one that ended the work, if one did.
func outcome(gone any) api.Errno {
	if gone == nil {
		return api.OK
	}
	return gone.(fault).number
}
