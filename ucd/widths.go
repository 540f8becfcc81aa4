package ucd

// Wide: is a character wide?
func Wide(r rune) bool {
	return within(r, 0x1100, 0x115F) || within(r, 0x2E80, 0x303E) || within(r, 0x3041, 0x33FF) ||
		within(r, 0x3400, 0x4DBF) || within(r, 0x4E00, 0x9FFF) || within(r, 0xAC00, 0xD7A3) ||
		within(r, 0xFF01, 0xFF60) || within(r, 0x1F300, 0x1F64F)
}

// Space: is a character a space?
func Space(r rune) bool {
	return r == 0x0009 || r == 0x0020 || within(r, 0x2000, 0x2006) || within(r, 0x2008, 0x200A) || r == 0x205F || r == 0x3000
}
