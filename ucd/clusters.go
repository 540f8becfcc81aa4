package ucd

// Cluster tells a character's cluster class.
func Cluster(r rune) uint8 {
	switch {
	case r == 0x000D:
		return ClusterCR
	case r == 0x000A:
		return ClusterLF
	case within(r, 0x0000, 0x0009), within(r, 0x000B, 0x000C), within(r, 0x000E, 0x001F),
		within(r, 0x007F, 0x009F), r == 0x00AD, r == 0x200B, within(r, 0x200E, 0x200F),
		within(r, 0x2028, 0x202E), within(r, 0x2060, 0x206F), r == 0xFEFF:
		return ClusterControl
	case r == 0x200D:
		return ClusterZWJ
	case mark(r), within(r, 0x0300, 0x036F), r == 0x200C, within(r, 0x1F3FB, 0x1F3FF):
		return ClusterExtend
	case within(r, 0x1F1E6, 0x1F1FF):
		return ClusterRI
	case within(r, 0x0600, 0x0605), r == 0x06DD:
		return ClusterPrepend
	case within(r, 0x1100, 0x115F):
		return ClusterHL
	case within(r, 0x1160, 0x11A7):
		return ClusterHV
	case within(r, 0x11A8, 0x11FF):
		return ClusterHT
	case r == 0x00A9, r == 0x00AE, r == 0x203C, r == 0x2049, within(r, 0x1F300, 0x1F3FA),
		within(r, 0x1F400, 0x1F64F):
		return ClusterPict
	case openSyllable(r):
		return ClusterLV
	case syllable(r):
		return ClusterLVT
	}
	return ClusterOther
}
