package guard_test

import (
	"hash/crc32"
	"slices"
	"testing"

	"satchel/guard"
)

// edges are sizes about those of the sum, of the table, and of what lies beyond.
var edges = []int{0, 1, 2, 3, 4, 5, 7, 8, 9, 15, 16, 17, 31, 32, 33, 63, 64, 65, 255, 256, 257, 1023, 1024, 1025, 1500, 70000}

// someBytes tells so many bytes that differ with their place.
func someBytes(size int) []byte {
	b := make([]byte, size)
	x := uint32(size) + 1
	for i := range b {
		x = x*1664525 + 1013904223
		b[i] = byte(x >> 24)
	}
	return b
}

// roomy tells the same bytes with spare room behind them, which holds others.
func roomy(b []byte) []byte {
	all := append(slices.Clone(b), 90, 91, 92, 93, 94, 95, 96, 97)
	return all[:len(b)]
}

// told tells the sum bit by bit, as the document's words say it.
func told(b []byte) uint32 {
	n := uint32(0xffffffff)
	for _, x := range b {
		for bit := range 8 {
			unlike := n&1 != uint32(x>>bit)&1
			n >>= 1
			if unlike {
				n ^= 3988292384
			}
		}
	}
	return ^n
}

// wantSum holds a sum against the one told bit by bit.
func wantSum(t *testing.T, what string, b []byte) {
	t.Helper()
	if got, want := guard.Sum(b), told(b); got != want {
		t.Errorf("%s: %d bytes: %d; want %d", what, len(b), got, want)
	}
}

func TestExamples(t *testing.T) {
	if got := guard.Sum(nil); got != 0 {
		t.Error(got)
	}
	if got := guard.Sum([]byte("123456789")); got != 3421780262 {
		t.Error(got)
	}
	if got := guard.More(guard.Sum([]byte("1234")), []byte("56789")); got != 3421780262 {
		t.Error(got)
	}
	wantPut(t, nil, []byte{0, 0, 0, 0})
	wantTold(t, []byte{0, 0, 0, 0}, nil)
	wantRefused(t, "three noughts", []byte{0, 0, 0})
	wantRefused(t, "four bytes", []byte{0, 0, 0, 1})
}

func TestSumsThatAreKnown(t *testing.T) {
	for _, x := range []struct {
		text string
		sum  uint32
	}{
		{"", 0},
		{"a", 0xe8b7be43},
		{"abc", 0x352441c2},
		{"The quick brown fox jumps over the lazy dog", 0x414fa339},
		{"\x00", 0xd202ef8d},
		{"\x00\x00\x00\x00", 0x2144df1c},
		{"\xff\xff\xff\xff", 0xffffffff},
	} {
		if got := guard.Sum([]byte(x.text)); got != x.sum {
			t.Errorf("%q: %x; want %x", x.text, got, x.sum)
		}
	}
}

func TestSumOfNone(t *testing.T) {
	wantSum(t, "nil", nil)
	wantSum(t, "no bytes", []byte{})
	wantSum(t, "none, but spare room", roomy(nil))
}

// Each byte has a place of its own in the table, at the front and behind others.
func TestSumOfEachByte(t *testing.T) {
	for x := range 256 {
		wantSum(t, "one byte", []byte{byte(x)})
		wantSum(t, "behind a byte", []byte{17, byte(x)})
		wantSum(t, "many alike", slices.Repeat([]byte{byte(x)}, 9))
	}
}

func TestSumOfTwoBytes(t *testing.T) {
	for x := range 256 * 256 {
		wantSum(t, "two bytes", []byte{byte(x), byte(x >> 8)})
	}
}

func TestSumOfEachSize(t *testing.T) {
	for size := range 600 {
		wantSum(t, "some bytes", someBytes(size))
	}
	for _, size := range edges {
		wantSum(t, "edges", someBytes(size))
		wantSum(t, "noughts", make([]byte, size))
		wantSum(t, "all ones", slices.Repeat([]byte{255}, size))
	}
}

func TestSumOfMany(t *testing.T) {
	b := someBytes(1 << 22)
	if got, want := guard.Sum(b), crc32.ChecksumIEEE(b); got != want {
		t.Errorf("%d; want %d", got, want)
	}
}

func TestSumLooksAtItsBytesAlone(t *testing.T) {
	for _, size := range edges {
		b := roomy(someBytes(size))
		guard.Sum(b)
		guard.More(5, b)
		if want := roomy(someBytes(size)); !slices.Equal(b[:cap(want)], want[:cap(want)]) {
			t.Errorf("%d bytes were changed", size)
		}
		wantSum(t, "with spare room", b)
	}
}

func TestMoreOfNone(t *testing.T) {
	for _, sum := range []uint32{0, 1, 2, 0x7fffffff, 0x80000000, 0xfffffffe, 0xffffffff, 3421780262} {
		if got := guard.More(sum, nil); got != sum {
			t.Errorf("%d: %d", sum, got)
		}
		if got := guard.More(sum, []byte{}); got != sum {
			t.Errorf("%d: %d", sum, got)
		}
	}
}

// A sum may be any number: each is that of some bytes.
func TestMoreBehindAnySum(t *testing.T) {
	b := someBytes(40)
	for i := range 5000 {
		sum := uint32(i) * 2654435761
		if got, want := guard.More(sum, b[:i%41]), crc32.Update(sum, crc32.IEEETable, b[:i%41]); got != want {
			t.Errorf("%d: %d; want %d", sum, got, want)
		}
	}
}

func TestPiecesInTwo(t *testing.T) {
	for size := range 150 {
		b := someBytes(size)
		want := guard.Sum(b)
		for cut := range size + 1 {
			if got := guard.More(guard.Sum(b[:cut]), b[cut:]); got != want {
				t.Errorf("%d bytes cut at %d: %d; want %d", size, cut, got, want)
			}
		}
	}
}

// All cuts in three, so that each of them is empty once, and all at once.
func TestPiecesInThree(t *testing.T) {
	for size := range 24 {
		b := someBytes(size)
		want := guard.Sum(b)
		for second := range size + 1 {
			for first := range second + 1 {
				got := guard.More(guard.More(guard.Sum(b[:first]), b[first:second]), b[second:])
				if got != want {
					t.Errorf("%d bytes cut at %d and %d: %d; want %d", size, first, second, got, want)
				}
			}
		}
	}
}

func TestPiecesOfManySizes(t *testing.T) {
	b := someBytes(3000)
	want := guard.Sum(b)
	for n := 1; n < 300; n++ {
		sum := guard.Sum(nil)
		for piece := range slices.Chunk(b, n) {
			sum = guard.More(guard.More(sum, piece), nil)
		}
		if sum != want {
			t.Errorf("pieces of %d bytes: %d; want %d", n, sum, want)
		}
	}
}

// What is asked in between changes nothing: no sum hangs on one ahead of it.
func TestSumsAreTheirOwn(t *testing.T) {
	x, y := someBytes(100), someBytes(77)
	a, b := guard.Sum(x[:30]), guard.Sum(y[:64])
	a, b = guard.More(a, x[30:]), guard.More(b, y[64:])
	if a != told(x) || b != told(y) {
		t.Error(a, b)
	}
}
