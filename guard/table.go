package guard

// xored is what the number is xored with where its lowest bit and a bit of the bytes are unlike.
const xored = 3988292384

// table tells of each byte what the number 0 becomes by it.
// What a byte's bits do is xored together, so what its lowest bit does and what the others do suffice: eight numbers are shifted instead of 256, and the table is cheap enough to be made in each call.
func table() [256]uint32 {
	var t [256]uint32
	n := uint32(1)
	for bit := 128; bit > 0; bit >>= 1 {
		n = shifted(n)
		for others := 0; others < len(t); others += 2 * bit {
			t[others+bit] = t[others] ^ n
		}
	}
	return t
}

// shifted tells the number behind one bit that is 0.
func shifted(n uint32) uint32 {
	if n&1 == 0 {
		return n >> 1
	}
	return n>>1 ^ xored
}
