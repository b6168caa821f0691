package chunk_test

import (
	"slices"
	"testing"

	"satchel/api"
)

// edges are sizes about those at which chunks begin to end, and have to.
var edges = []int{0, 1, 2, 15, 16, 17, 62, 63, 64, 65, 66, 127, 128, 129, 1022, 1023, 1024, 1025, 1026, 1087, 1088, 1089, 2047, 2048, 2049, 5000}

// someBytes tells so many bytes that differ with their place.
func someBytes(size int) []byte {
	b := make([]byte, size)
	x := uint32(size) + 1
	for i := range b {
		x = x*1664525 + 1013904223
		b[i] = byte(x >> 24)
	}
	return b
}

// roomy tells the same bytes with spare room behind them, which holds others.
func roomy(b []byte) []byte {
	all := append(slices.Clone(b), someBytes(200)...)
	return all[:len(b)]
}

// Modulo 2^32 the product of factor and inverse is 1.
const (
	factor  = 2654435761
	inverse = 244002641
)

// sumOf tells the sum of bytes by its meaning: what each counts, times a power of three.
func sumOf(b []byte) uint32 {
	sum, power := uint32(0), uint32(1)
	for _, c := range slices.Backward(b) {
		sum += (2*uint32(c) + 1) * factor * power
		power *= 3
	}
	return sum
}

// windowOf tells sixteen bytes that have this sum, which must be even, for sixteen odd numbers are summed.
func windowOf(t *testing.T, sum uint32) []byte {
	t.Helper()
	n := (sum*inverse - (43046721-1)/2) / 2 // what the powers of three times the bytes come to
	var b []byte
	for power := uint32(14348907); power > 0; power /= 3 {
		c := min(255, n/power)
		n -= c * power
		b = append(b, byte(c))
	}
	if len(b) != api.Window || sumOf(b) != sum {
		t.Fatalf("%v have the sum %d; want %d", b, sumOf(b), sum)
	}
	return b
}

// lowEnds tells behind how many bytes the sum of the last sixteen is below 2^24.
func lowEnds(b []byte) []int {
	var l []int
	for i := api.Window; i <= len(b); i++ {
		if sumOf(b[i-api.Window:i]) < 1<<24 {
			l = append(l, i)
		}
	}
	return l
}

// lowAt tells so many bytes of which just the windows that end at these places have a sum below 2^24.
func lowAt(t *testing.T, size int, ends ...int) []byte {
	t.Helper()
	b := make([]byte, size)
	for _, end := range ends {
		copy(b[end-api.Window:], windowOf(t, 123456))
	}
	if got := lowEnds(b); !slices.Equal(got, ends) {
		t.Fatalf("low at %v; want %v", got, ends)
	}
	return b
}

// endsByItself tells whether bytes that begin a chunk are all of it, whatever comes behind them.
func endsByItself(b []byte) bool {
	return len(b) == 1024 || len(b) >= 64 && sumOf(b[len(b)-16:])/(1<<24) == 0
}

// told tells the chunks as the document's words say it, each place looked at anew.
func told(b []byte) [][]byte {
	var l [][]byte
	for begin, end := 0, 1; end <= len(b); end++ {
		if end == len(b) || endsByItself(b[begin:end]) {
			l = append(l, slices.Clone(b[begin:end]))
			begin = end
		}
	}
	return l
}

// sizesOf tells how many bytes each has.
func sizesOf(l [][]byte) []int {
	var sizes []int
	for _, b := range l {
		sizes = append(sizes, len(b))
	}
	return sizes
}
