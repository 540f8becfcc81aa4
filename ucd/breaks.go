package ucd

// Break tells a character's line-break class.
func Break(r rune) uint8 {
	switch {
	case r < 0x0300:
		return lowBreak(r)
	case r < 0x0800:
		return rightBreak(r)
	case r < 0x3100:
		return signBreak(r)
	}
	return highBreak(r)
}

// lowBreak tells the line-break classes of characters below 0300.
func lowBreak(r rune) uint8 {
	switch {
	case r == 0x000A:
		return BreakLF
	case r == 0x000D:
		return BreakCR
	case r == 0x0085:
		return BreakNL
	case within(r, 0x000B, 0x000C):
		return BreakBK
	case r == 0x0020:
		return BreakSP
	case r == 0x00A0:
		return BreakGL
	case within(r, 0x0000, 0x0008), within(r, 0x000E, 0x001F), within(r, 0x007F, 0x0084),
		within(r, 0x0086, 0x009F):
		return BreakCM
	case r == 0x0009, r == 0x007C, r == 0x00AD:
		return BreakBA
	case r == 0x00B4:
		return BreakBB
	case r == 0x002D:
		return BreakHY
	case r == 0x0021, r == 0x003F:
		return BreakEX
	case r == 0x0028, r == 0x005B, r == 0x007B, r == 0x00A1, r == 0x00BF:
		return BreakOP
	case r == 0x0029, r == 0x005D:
		return BreakCP
	case r == 0x007D:
		return BreakCL
	case r == 0x0022, r == 0x0027, r == 0x00AB, r == 0x00BB:
		return BreakQU
	case r == 0x002C, r == 0x002E, within(r, 0x003A, 0x003B):
		return BreakIS
	case r == 0x002F:
		return BreakSY
	case r == 0x0025, r == 0x00A2, r == 0x00B0:
		return BreakPO
	case r == 0x0024, r == 0x002B, r == 0x005C, within(r, 0x00A3, 0x00A5), r == 0x00B1:
		return BreakPR
	case within(r, 0x0030, 0x0039):
		return BreakNU
	}
	return BreakAL
}

// rightBreak tells the line-break classes of those from 0300 to 07FF.
func rightBreak(r rune) uint8 {
	switch {
	case r == 0x034F, within(r, 0x035C, 0x0362):
		return BreakGL
	case mark(r), within(r, 0x0300, 0x034E), within(r, 0x0350, 0x035B), within(r, 0x0363, 0x036F):
		return BreakCM
	case r == 0x05BE:
		return BreakBA
	case r == 0x05C6, r == 0x061B, within(r, 0x061D, 0x061F), r == 0x06D4:
		return BreakEX
	case r == 0x0589, within(r, 0x060C, 0x060D):
		return BreakIS
	case within(r, 0x0609, 0x060B), r == 0x066A:
		return BreakPO
	case within(r, 0x0660, 0x0669), within(r, 0x066B, 0x066C), within(r, 0x06F0, 0x06F9):
		return BreakNU
	case within(r, 0x05D0, 0x05EA), within(r, 0x05EF, 0x05F2):
		return BreakHL
	}
	return BreakAL
}

// signBreak tells the line-break classes of those from 0800 to 30FF.
func signBreak(r rune) uint8 {
	switch {
	case within(r, 0x2028, 0x2029):
		return BreakBK
	case r == 0x200B:
		return BreakZW
	case r == 0x2060:
		return BreakWJ
	case r == 0x2007, r == 0x2011, r == 0x202F:
		return BreakGL
	case r == 0x200D:
		return BreakZWJ
	case mark(r), r == 0x200C, within(r, 0x200E, 0x200F), within(r, 0x202A, 0x202E), within(r, 0x2066, 0x206F):
		return BreakCM
	case within(r, 0x2000, 0x2006), within(r, 0x2008, 0x200A), r == 0x2010, within(r, 0x2012, 0x2013),
		r == 0x2027, r == 0x2056, within(r, 0x2058, 0x205B), within(r, 0x205D, 0x205F), r == 0x3000:
		return BreakBA
	case r == 0x2014:
		return BreakB2
	case within(r, 0x2024, 0x2026):
		return BreakIN
	case within(r, 0x203C, 0x203D), within(r, 0x2047, 0x2049), r == 0x3005, r == 0x301C:
		return BreakNS
	case r == 0x201A, r == 0x201E, r == 0x2045, r == 0x207D, r == 0x208D, r == 0x2308, r == 0x230A, r == 0x2329,
		r == 0x27E6, r == 0x27E8, r == 0x27EA, r == 0x27EC, r == 0x27EE, r == 0x3008, r == 0x300A, r == 0x300C,
		r == 0x300E, r == 0x3010, r == 0x3014, r == 0x3016, r == 0x3018, r == 0x301A:
		return BreakOP
	case r == 0x2046, r == 0x207E, r == 0x208E, r == 0x2309, r == 0x230B, r == 0x232A, r == 0x27E7, r == 0x27E9,
		r == 0x27EB, r == 0x27ED, r == 0x27EF, within(r, 0x3001, 0x3002), r == 0x3009, r == 0x300B, r == 0x300D,
		r == 0x300F, r == 0x3011, r == 0x3015, r == 0x3017, r == 0x3019, r == 0x301B:
		return BreakCL
	case within(r, 0x2018, 0x2019), within(r, 0x201B, 0x201D), r == 0x201F, within(r, 0x2039, 0x203A):
		return BreakQU
	case r == 0x2044:
		return BreakIS
	case within(r, 0x2030, 0x2037), r == 0x2103:
		return BreakPO
	case r == 0x2116, within(r, 0x2212, 0x2213), within(r, 0x20A0, 0x20A6), within(r, 0x20A8, 0x20B5):
		return BreakPR
	case within(r, 0x1100, 0x115F):
		return BreakJL
	case within(r, 0x1160, 0x11A7):
		return BreakJV
	case within(r, 0x11A8, 0x11FF):
		return BreakJT
	case within(r, 0x2E80, 0x2FD5), within(r, 0x3003, 0x3004), within(r, 0x3006, 0x3007),
		within(r, 0x3041, 0x3096), within(r, 0x30A1, 0x30FA):
		return BreakID
	}
	return BreakAL
}

// highBreak tells the line-break classes of those from 3100 on.
func highBreak(r rune) uint8 {
	switch {
	case r == 0xFEFF:
		return BreakWJ
	case mark(r):
		return BreakCM
	case r == 0xFFFC:
		return BreakCB
	case r == 0xFF01, r == 0xFF1F:
		return BreakEX
	case r == 0xFB1D, within(r, 0xFB1F, 0xFB28), within(r, 0xFB2A, 0xFB4F):
		return BreakHL
	case within(r, 0x1F1E6, 0x1F1FF):
		return BreakRI
	case within(r, 0x1F3FB, 0x1F3FF):
		return BreakEM
	case within(r, 0x1F44A, 0x1F450), within(r, 0x1F466, 0x1F469), within(r, 0x1F645, 0x1F647):
		return BreakEB
	case within(r, 0x3400, 0x4DBF), within(r, 0x4E00, 0x9FFF), within(r, 0x1F300, 0x1F3FA),
		within(r, 0x1F400, 0x1F449), within(r, 0x1F451, 0x1F465), within(r, 0x1F46A, 0x1F644),
		within(r, 0x1F648, 0x1F64F):
		return BreakID
	case openSyllable(r):
		return BreakH2
	case syllable(r):
		return BreakH3
	}
	return BreakAL
}
