package font

import "calamus/api"

// fault is what the work is given up with.
type fault struct{ number api.Errno }

// require gives up, unless the bytes are still a font's.
func require(ok bool) {
	if !ok {
		panic(fault{api.ErrFont})
	}
}

// outcome tells the face's error: the one that ended the work, if one did.
func outcome(gone any) api.Errno {
	if gone == nil {
		return api.OK
	}
	return gone.(fault).number
}
