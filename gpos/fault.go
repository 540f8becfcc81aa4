package gpos

import "calamus/api"

// fault is what the work is given up with.
type fault struct{ number api.Errno }

// giveUp ends the work on what is no table of positionings.
func giveUp() { panic(fault{api.ErrFont}) }

// require gives up, unless the table is still as told.
func require(ok bool) {
	if !ok {
		giveUp()
	}
}

// outcome tells the face's error: the one that ended the work, if one did.
func outcome(gone any) api.Errno {
	if gone == nil {
		return api.OK
	}
	return gone.(fault).number
}
