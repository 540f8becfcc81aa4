package bin

// Sum tells the sum of b as numbers of four bytes, modulo 2^32.
func Sum(b []byte) uint32 {
	var sum uint32
	for at, part := range b {
		sum += uint32(part) << (24 - at%4*8)
	}
	return sum
}
