package roll_test

import (
	"math/big"
	"slices"
	"testing"

	"satchel/api"
	"satchel/roll"
)

// edges are sizes about those of a window, and of what lies beyond.
var edges = []int{0, 1, 2, 3, 8, 14, 15, 16, 17, 18, 31, 32, 33, 47, 48, 49, 63, 64, 65, 255, 256, 257, 1023, 1024, 1025, 70000}

// someBytes tells so many bytes that differ with their place.
func someBytes(size int) []byte {
	b := make([]byte, size)
	x := uint32(size) + 1
	for i := range b {
		x = x*1664525 + 1013904223
		b[i] = byte(x >> 24)
	}
	return b
}

// roomy tells the same bytes with spare room behind them, which holds others.
func roomy(b []byte) []byte {
	all := append(slices.Clone(b), 90, 91, 92, 93, 94, 95, 96, 97)
	return all[:len(b)]
}

// cut tells a whole number modulo 2^32, one below 0 too.
func cut(n *big.Int) uint32 {
	return uint32(new(big.Int).Mod(n, big.NewInt(1<<32)).Uint64())
}

// counts tells what a byte counts, as the document's words say it, but without a limit.
func counts(c byte) *big.Int {
	return new(big.Int).Mul(big.NewInt(2*int64(c)+1), big.NewInt(2654435761))
}

// told tells the sum of bytes as the document's words say it, but not told step by step: what each byte counts, times a power of three, all without a limit.
func told(b []byte) uint32 {
	all, power := new(big.Int), big.NewInt(1)
	for _, c := range slices.Backward(b) {
		all.Add(all, new(big.Int).Mul(counts(c), power))
		power.Mul(power, big.NewInt(3))
	}
	return cut(all)
}

// rolled tells what Roll should, without a limit.
func rolled(sum uint32, out, in byte) uint32 {
	n := new(big.Int).Mul(counts(out), big.NewInt(14348907))
	n.Sub(big.NewInt(int64(sum)), n)
	n.Mul(n, big.NewInt(3))
	return cut(n.Add(n, counts(in)))
}

// wantSum holds a sum against the one told without a limit.
func wantSum(t *testing.T, what string, b []byte) {
	t.Helper()
	if got, want := roll.Sum(b), told(b); got != want {
		t.Errorf("%s: %d bytes: %d; want %d", what, len(b), got, want)
	}
}

// wantRoll holds a sum that was rolled against the one told without a limit.
func wantRoll(t *testing.T, sum uint32, out, in byte) {
	t.Helper()
	if got, want := roll.Roll(sum, out, in), rolled(sum, out, in); got != want {
		t.Errorf("Roll(%d, %d, %d): %d; want %d", sum, out, in, got, want)
	}
}

func TestExamplesOfSums(t *testing.T) {
	if got := roll.Weight(0); got != 2654435761 {
		t.Error(got)
	}
	if got := roll.Weight(1); got != 3668339987 {
		t.Error(got)
	}
	if got := roll.Sum(nil); got != 0 {
		t.Error(got)
	}
	if got := roll.Sum([]byte{0, 0}); got != 2027808452 {
		t.Error(got)
	}
	noughts := roll.Sum(make([]byte, 16))
	if got := roll.Roll(noughts, 0, 0); got != noughts {
		t.Error(got, noughts)
	}
}

// All but that of 0 go past 2^32.
func TestWeightOfEachByte(t *testing.T) {
	for c := range 256 {
		if got, want := roll.Weight(byte(c)), cut(counts(byte(c))); got != want {
			t.Errorf("%d: %d; want %d", c, got, want)
		}
	}
}

func TestNoTwoBytesCountTheSame(t *testing.T) {
	seen := map[uint32]int{}
	for c := range 256 {
		w := roll.Weight(byte(c))
		if other, there := seen[w]; there {
			t.Error(other, c)
		}
		seen[w] = c
	}
}

func TestSumOfNone(t *testing.T) {
	for _, b := range [][]byte{nil, {}, roomy(nil)} {
		if got := roll.Sum(b); got != 0 {
			t.Errorf("%v: %d", b, got)
		}
	}
}

func TestSumOfOneByteIsWhatItCounts(t *testing.T) {
	for c := range 256 {
		if got, want := roll.Sum([]byte{byte(c)}), roll.Weight(byte(c)); got != want {
			t.Errorf("%d: %d; want %d", c, got, want)
		}
	}
}

func TestSumOfTwoBytes(t *testing.T) {
	for x := range 256 * 256 {
		b := []byte{byte(x), byte(x >> 8)}
		if got, want := roll.Sum(b), 3*roll.Weight(b[0])+roll.Weight(b[1]); got != want {
			t.Errorf("%v: %d; want %d", b, got, want)
		}
	}
}

// A byte of 0 counts, so that each size has another sum, and bytes of 0 ahead are told apart.
func TestNoughtsCount(t *testing.T) {
	seen := map[uint32]int{}
	for size := range 200 {
		sum := roll.Sum(make([]byte, size))
		if other, there := seen[sum]; there {
			t.Error(other, size)
		}
		seen[sum] = size
	}
}

func TestSumOfEachSize(t *testing.T) {
	for size := range 300 {
		wantSum(t, "some bytes", someBytes(size))
		wantSum(t, "noughts", make([]byte, size))
		wantSum(t, "the greatest", slices.Repeat([]byte{255}, size))
	}
	for _, size := range edges[:len(edges)-1] {
		wantSum(t, "edges", someBytes(size))
	}
}

// A sum is not that of a window alone, however many bytes there are.
func TestSumOfMany(t *testing.T) {
	b := someBytes(1 << 20)
	sum := uint64(0)
	for _, c := range b {
		sum = (3*sum + (2*uint64(c)+1)*2654435761) % (1 << 32)
	}
	if got := roll.Sum(b); got != uint32(sum) {
		t.Errorf("%d; want %d", got, sum)
	}
}

func TestSumGoesByStep(t *testing.T) {
	b := someBytes(500)
	for n, c := range b {
		if got, want := roll.Sum(b[:n+1]), 3*roll.Sum(b[:n])+roll.Weight(c); got != want {
			t.Errorf("%d bytes: %d; want %d", n+1, got, want)
		}
	}
}

func TestTheOrderMatters(t *testing.T) {
	b := someBytes(40)
	for i := range len(b) - 1 {
		other := slices.Clone(b)
		other[i], other[i+1] = b[i+1], b[i]
		if b[i] != b[i+1] && roll.Sum(other) == roll.Sum(b) {
			t.Errorf("bytes %d and %d changed places, and the sum is the same", i, i+1)
		}
	}
}

func TestSumLooksAtItsBytesAlone(t *testing.T) {
	for _, size := range edges {
		b := roomy(someBytes(size))
		got := roll.Sum(b)
		if want := roomy(someBytes(size)); !slices.Equal(b[:cap(want)], want[:cap(want)]) {
			t.Errorf("%d bytes, or those behind them, were changed", size)
		}
		if want := roll.Sum(slices.Clip(someBytes(size))); got != want {
			t.Errorf("%d bytes: %d; want %d", size, got, want)
		}
	}
}

func TestRollOfEachPair(t *testing.T) {
	sum := roll.Sum(someBytes(api.Window))
	for x := range 256 * 256 {
		out, in := byte(x), byte(x>>8)
		want := 3*(sum-roll.Weight(out)*14348907) + roll.Weight(in)
		if got := roll.Roll(sum, out, in); got != want {
			t.Errorf("Roll(%d, %d, %d): %d; want %d", sum, out, in, got, want)
		}
	}
}

// Roll is told of any number, be it the sum of a window or not, and where the difference is below 0.
func TestRollOfAnySum(t *testing.T) {
	for _, sum := range []uint32{0, 1, 2, 0x55555555, 0x55555556, 0x7fffffff, 0x80000000, 0xfffffffe, 0xffffffff} {
		for _, c := range []byte{0, 1, 127, 128, 254, 255} {
			wantRoll(t, sum, 0, c)
			wantRoll(t, sum, c, 0)
			wantRoll(t, sum, c, 255)
			wantRoll(t, sum, 255, c)
		}
	}
	for i := range 20000 {
		wantRoll(t, uint32(i)*2654435769, byte(i/3), byte(i/257))
	}
}

// Sixteen bytes that are all alike stay as they are when one more of them comes.
func TestRollOfBytesAllAlike(t *testing.T) {
	for c := range 256 {
		sum := roll.Sum(slices.Repeat([]byte{byte(c)}, api.Window))
		if got := roll.Roll(sum, byte(c), byte(c)); got != sum {
			t.Errorf("%d: %d; want %d", c, got, sum)
		}
	}
}

func TestRollIsTheSumOfTheNextWindow(t *testing.T) {
	for _, size := range edges {
		b := someBytes(size)
		for i := api.Window; i < len(b); i++ {
			sum := roll.Sum(b[i-api.Window : i])
			if got, want := roll.Roll(sum, b[i-api.Window], b[i]), roll.Sum(b[i-api.Window+1:i+1]); got != want {
				t.Fatalf("%d bytes, at %d: %d; want %d", size, i, got, want)
			}
		}
	}
}

// Of another first byte, or of fewer or more than sixteen, Roll tells no sum of a window: the power is that of sixteen.
func TestRollIsOfSixteen(t *testing.T) {
	b := someBytes(40)
	for n := 1; n < 32; n++ {
		got := roll.Roll(roll.Sum(b[:n]), b[0], b[n])
		if same := got == roll.Sum(b[1:n+1]); same != (n == api.Window) {
			t.Errorf("%d bytes: %v", n, same)
		}
	}
	sum := roll.Sum(b[:16])
	for c := range 256 {
		if same := roll.Roll(sum, byte(c), b[16]) == roll.Sum(b[1:17]); same != (byte(c) == b[0]) {
			t.Errorf("out %d: %v", c, same)
		}
	}
}

// At each place of a window of each size each byte makes another sum.
func TestOneOtherByteMakesAnotherSum(t *testing.T) {
	for _, fill := range []func(int) []byte{
		someBytes,
		func(size int) []byte { return make([]byte, size) },
		func(size int) []byte { return slices.Repeat([]byte{255}, size) },
	} {
		for size := 1; size <= api.Window; size++ {
			for at := range size {
				wantAllUnlike(t, fill(size), at)
			}
		}
	}
}

// wantAllUnlike says that of all bytes at a place no two make the same sum.
func wantAllUnlike(t *testing.T, b []byte, at int) {
	t.Helper()
	seen := map[uint32]int{}
	for c := range 256 {
		b[at] = byte(c)
		sum := roll.Sum(b)
		if other, there := seen[sum]; there {
			t.Errorf("%v, at %d: %d and %d make the same sum", b, at, other, c)
		}
		seen[sum] = c
	}
}
