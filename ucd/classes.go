package ucd

import "calamus/api"

// Class tells a character's bidi class.
func Class(r rune) api.Class {
	switch {
	case r < 0x0300:
		return lowClass(r)
	case r < 0x0800:
		return rightClass(r)
	case r < 0x3100:
		return signClass(r)
	}
	return highClass(r)
}

// lowClass tells the bidi classes of characters below 0300.
func lowClass(r rune) api.Class {
	switch {
	case within(r, 0x0030, 0x0039), within(r, 0x00B2, 0x00B3), r == 0x00B9:
		return api.EN
	case r == 0x002B, r == 0x002D:
		return api.ES
	case within(r, 0x0023, 0x0025), within(r, 0x00A2, 0x00A5), within(r, 0x00B0, 0x00B1):
		return api.ET
	case r == 0x002C, within(r, 0x002E, 0x002F), r == 0x003A, r == 0x00A0:
		return api.CS
	case within(r, 0x0000, 0x0008), within(r, 0x000E, 0x001B), within(r, 0x007F, 0x0084),
		within(r, 0x0086, 0x009F), r == 0x00AD:
		return api.BN
	case r == 0x000A, r == 0x000D, within(r, 0x001C, 0x001E), r == 0x0085:
		return api.B
	case r == 0x0009, r == 0x000B, r == 0x001F:
		return api.S
	case r == 0x000C, r == 0x0020:
		return api.WS
	case within(r, 0x0021, 0x0022), within(r, 0x0026, 0x002A), within(r, 0x003B, 0x0040),
		within(r, 0x005B, 0x0060), within(r, 0x007B, 0x007E), r == 0x00A1, within(r, 0x00A6, 0x00A9),
		within(r, 0x00AB, 0x00AC), within(r, 0x00AE, 0x00AF), r == 0x00B4, within(r, 0x00B6, 0x00B8),
		within(r, 0x00BB, 0x00BF), r == 0x00D7, r == 0x00F7:
		return api.ON
	}
	return api.L
}

// rightClass tells the bidi classes of those from 0300 to 07FF.
func rightClass(r rune) api.Class {
	switch {
	case r == 0x0590, r == 0x05BE, r == 0x05C0, r == 0x05C3, r == 0x05C6, within(r, 0x05C8, 0x05FF):
		return api.R
	case r == 0x0608, r == 0x060B, r == 0x060D, within(r, 0x061B, 0x064A), within(r, 0x066D, 0x066F),
		within(r, 0x0671, 0x06D5), within(r, 0x06E5, 0x06E6), within(r, 0x06EE, 0x06EF),
		within(r, 0x06FA, 0x0710), within(r, 0x0712, 0x072F), within(r, 0x074B, 0x07A5),
		within(r, 0x07B1, 0x07BF):
		return api.AL
	case within(r, 0x06F0, 0x06F9):
		return api.EN
	case within(r, 0x0609, 0x060A), r == 0x066A:
		return api.ET
	case within(r, 0x0600, 0x0605), within(r, 0x0660, 0x0669), within(r, 0x066B, 0x066C), r == 0x06DD:
		return api.AN
	case r == 0x060C:
		return api.CS
	case mark(r), within(r, 0x0300, 0x036F):
		return api.NSM
	case within(r, 0x0606, 0x0607), within(r, 0x060E, 0x060F), r == 0x06DE, r == 0x06E9:
		return api.ON
	}
	return api.L
}

// signClass tells the bidi classes of those from 0800 to 30FF.
func signClass(r rune) api.Class {
	switch {
	case r == 0x200F:
		return api.R
	case r == 0x2070, within(r, 0x2074, 0x2079), within(r, 0x2080, 0x2089):
		return api.EN
	case within(r, 0x207A, 0x207B), within(r, 0x208A, 0x208B), r == 0x2212:
		return api.ES
	case within(r, 0x2030, 0x2034), within(r, 0x20A0, 0x20CF), r == 0x2213:
		return api.ET
	case r == 0x202F, r == 0x2044:
		return api.CS
	case mark(r):
		return api.NSM
	case within(r, 0x200B, 0x200D), within(r, 0x2060, 0x2065), within(r, 0x206A, 0x206F):
		return api.BN
	case r == 0x2029:
		return api.B
	case within(r, 0x2000, 0x200A), r == 0x2028, r == 0x205F, r == 0x3000:
		return api.WS
	case within(r, 0x2010, 0x2027), within(r, 0x2035, 0x2043), within(r, 0x2045, 0x205E),
		within(r, 0x207C, 0x207E), within(r, 0x208C, 0x208E), within(r, 0x2190, 0x2211),
		within(r, 0x2214, 0x2335), within(r, 0x2500, 0x2637), within(r, 0x27E6, 0x27EF),
		within(r, 0x3001, 0x3004), within(r, 0x3008, 0x3020):
		return api.ON
	}
	return explicitClass(r)
}

// explicitClass tells the classes that set levels.
func explicitClass(r rune) api.Class {
	switch r {
	case 0x202A:
		return api.LRE
	case 0x202B:
		return api.RLE
	case 0x202D:
		return api.LRO
	case 0x202E:
		return api.RLO
	case 0x202C:
		return api.PDF
	case 0x2066:
		return api.LRI
	case 0x2067:
		return api.RLI
	case 0x2068:
		return api.FSI
	case 0x2069:
		return api.PDI
	}
	return api.L
}

// highClass tells the bidi classes of those from 3100 on.
func highClass(r rune) api.Class {
	switch {
	case r == 0xFB1D, within(r, 0xFB1F, 0xFB28), within(r, 0xFB2A, 0xFB4F), within(r, 0x1E900, 0x1E943),
		within(r, 0x1E94B, 0x1E95F):
		return api.R
	case within(r, 0xFB50, 0xFD3D), within(r, 0xFE70, 0xFEFC), within(r, 0x1EE00, 0x1EEEF):
		return api.AL
	case r == 0xFB29:
		return api.ES
	case mark(r):
		return api.NSM
	case r == 0xFEFF:
		return api.BN
	case within(r, 0xFD3E, 0xFD3F), r == 0xFFFD, within(r, 0x1F300, 0x1F64F):
		return api.ON
	}
	return api.L
}
