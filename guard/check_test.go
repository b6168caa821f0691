package guard_test

import (
	"bytes"
	"slices"
	"testing"

	"satchel/api"
	"satchel/guard"
)

// wantPut holds what Put tells against the bytes that it should.
func wantPut(t *testing.T, b, want []byte) {
	t.Helper()
	if got := guard.Put(b); !bytes.Equal(got, want) {
		t.Errorf("Put of %d bytes: %v; want %v", len(b), got, want)
	}
}

// wantTold says that guarded bytes are told as those that were guarded.
func wantTold(t *testing.T, b, want []byte) {
	t.Helper()
	if got, err := guard.Check(b); err != api.OK || !bytes.Equal(got, want) {
		t.Errorf("Check of %d bytes: %v, %v; want %v", len(b), got, err, want)
	}
}

// wantRefused says that bytes are refused, and nothing is told of them.
func wantRefused(t *testing.T, what string, b []byte) {
	t.Helper()
	if got, err := guard.Check(b); err != api.ErrBytes || len(got) != 0 {
		t.Errorf("%s: Check of %d bytes: %v, %v; want ErrBytes", what, len(b), got, err)
	}
}

// guarded tells bytes with the sum told bit by bit behind them, its lowest byte first.
func guarded(b []byte) []byte {
	sum := told(b)
	return append(slices.Clone(b), byte(sum), byte(sum>>8), byte(sum>>16), byte(sum>>24))
}

// turn turns bits from one on, where the pattern's bits are set, the lowest bit of a byte first.
func turn(b []byte, from int, pattern uint64) {
	for i := range 64 {
		if pattern>>i&1 == 1 {
			b[(from+i)/8] ^= 1 << ((from + i) % 8)
		}
	}
}

// wantTurnsRefused turns bits of guarded bytes so, at each place where they fit, the sum's own bits included.
func wantTurnsRefused(t *testing.T, b []byte, pattern uint64, length int) {
	t.Helper()
	for from := range 8*len(b) - length + 1 {
		turn(b, from, pattern)
		if _, err := guard.Check(b); err != api.ErrBytes {
			t.Errorf("%d bytes, bits %b turned from bit %d on: %v", len(b), pattern, from, err)
		}
		turn(b, from, pattern)
	}
}

func TestPutLaysTheLowestByteFirst(t *testing.T) {
	wantPut(t, []byte("abc"), []byte{'a', 'b', 'c', 0xc2, 0x41, 0x24, 0x35})
	wantPut(t, []byte("123456789"), append([]byte("123456789"), 0x26, 0x39, 0xf4, 0xcb))
}

func TestPutAndCheckOfEachSize(t *testing.T) {
	for size := range 300 {
		b := someBytes(size)
		wantPut(t, b, guarded(b))
		wantTold(t, guarded(b), b)
		wantTold(t, guard.Put(b), b)
	}
	for _, size := range edges {
		b := someBytes(size)
		wantPut(t, b, guarded(b))
		wantTold(t, guard.Put(b), b)
		wantTold(t, guard.Put(make([]byte, size)), make([]byte, size))
	}
}

// What is guarded may be guarded again, each time by four bytes more.
func TestGuardedTwice(t *testing.T) {
	once := guard.Put(someBytes(20))
	twice := guard.Put(once)
	if len(twice) != 28 {
		t.Error(len(twice))
	}
	wantTold(t, twice, once)
	wantTold(t, once, someBytes(20))
}

func TestCheckOfFewerThanFour(t *testing.T) {
	wantRefused(t, "nil", nil)
	for size := range 4 {
		wantRefused(t, "noughts", make([]byte, size))
		wantRefused(t, "some", someBytes(size))
		wantRefused(t, "all ones", slices.Repeat([]byte{255}, size))
		// The fourth byte that lies in the spare room is none of theirs.
		wantRefused(t, "noughts, and more in the spare room", make([]byte, size, 8))
	}
}

// Of four bytes just those are told that guard nothing.
func TestCheckOfFour(t *testing.T) {
	wantTold(t, make([]byte, 4), nil)
	for at := range 4 {
		for x := 1; x < 256; x++ {
			b := make([]byte, 4)
			b[at] = byte(x)
			wantRefused(t, "four bytes", b)
		}
	}
	wantRefused(t, "all ones", []byte{255, 255, 255, 255})
}

// With a byte ahead, just one sum of each is told.
func TestCheckOfFive(t *testing.T) {
	for x := range 256 {
		b := guarded([]byte{byte(x)})
		wantTold(t, b, []byte{byte(x)})
		for other := range 256 {
			if other != x {
				b[0] = byte(other)
				wantRefused(t, "another byte's sum", b)
			}
		}
	}
}

func TestSumsOfAnotherShape(t *testing.T) {
	b := someBytes(30)
	sum := told(b)
	for what, last := range map[string][]byte{
		"the highest first": {byte(sum >> 24), byte(sum >> 16), byte(sum >> 8), byte(sum)},
		"bits not turned":   {byte(^sum), byte(^sum >> 8), byte(^sum >> 16), byte(^sum >> 24)},
		"noughts":           {0, 0, 0, 0},
		"one too few":       {byte(sum), byte(sum >> 8), byte(sum >> 16)},
		"one too many":      {byte(sum), byte(sum >> 8), byte(sum >> 16), byte(sum >> 24), 0},
		"none":              nil,
	} {
		wantRefused(t, what, append(slices.Clone(b), last...))
	}
	wantRefused(t, "the sum ahead", append(guarded(b)[30:], b...))
}

func TestCutShortAndWithMoreBehind(t *testing.T) {
	b := guard.Put(someBytes(60))
	for size := range len(b) {
		wantRefused(t, "cut short", b[:size])
		wantRefused(t, "without its beginning", b[len(b)-size:])
	}
	for x := range 256 {
		wantRefused(t, "a byte behind", append(slices.Clone(b), byte(x)))
		wantRefused(t, "a byte ahead", append([]byte{byte(x)}, b...))
	}
}

// Bytes that were changed further apart than 32 bits are told just where their sum is the right one.
func TestCheckTellsWhatPutTells(t *testing.T) {
	was := guarded(someBytes(12))
	for i := range 40000 {
		b := slices.Clone(was)
		b[i%len(b)] ^= byte(i / 16)
		b[i/7%len(b)] ^= byte(i / 157)
		n := len(b) - 4
		if bytes.Equal(guarded(b[:n]), b) {
			wantTold(t, b, b[:n])
		} else {
			wantRefused(t, "changed", b)
		}
	}
}

func TestEverySingleBit(t *testing.T) {
	for _, size := range []int{0, 1, 2, 3, 4, 5, 30, 256, 1500} {
		wantTurnsRefused(t, guard.Put(someBytes(size)), 1, 1)
		wantTurnsRefused(t, guard.Put(make([]byte, size)), 1, 1)
	}
}

// All turns of up to 12 bits in a row, at all places.
func TestAllShortTurns(t *testing.T) {
	b := guard.Put(someBytes(5))
	for pattern := uint64(1); pattern < 1<<12; pattern += 2 {
		wantTurnsRefused(t, b, pattern, 12)
	}
}

// Turns of each length up to 32, at all places, with many bits between the first and the last.
func TestTurnsWithin32(t *testing.T) {
	for _, size := range []int{0, 1, 3, 4, 40} {
		b := guard.Put(someBytes(size))
		for length := 1; length <= 32; length++ {
			ends := uint64(1)<<(length-1) | 1
			all := uint64(1)<<length - 1
			for i := range uint64(20) {
				wantTurnsRefused(t, b, ends|i*i*2654435761&all, length)
			}
			wantTurnsRefused(t, b, all, length)
		}
	}
}

// Turns that begin in the bytes and end in their sum, of which there are 31 places.
func TestTurnsThatGoOverIntoTheSum(t *testing.T) {
	b := guard.Put(someBytes(9))
	for from := 8*9 - 31; from < 8*9; from++ {
		for i := range uint64(2000) {
			pattern := 1 | i*6364136223846793005>>32
			turn(b, from, pattern)
			wantRefused(t, "turned over the end", b)
			turn(b, from, pattern)
		}
	}
	wantTold(t, b, someBytes(9))
}

// Within 33 bits in a row just one turn is not told: it is that of a shift itself.
func TestTheOneTurnWithin33(t *testing.T) {
	hidden := uint64(1)
	for bit := range 32 {
		hidden |= 3988292384 >> bit & 1 << (bit + 1)
	}
	b := guard.Put(someBytes(20))
	for from := range 8*len(b) - 32 {
		turn(b, from, hidden)
		wantTold(t, b, b[:20])
		turn(b, from, hidden)
	}
	for bit := 1; bit < 32; bit++ {
		wantTurnsRefused(t, b, hidden^1<<bit, 33)
	}
}

func TestGivenIsNotChanged(t *testing.T) {
	for _, size := range edges {
		want := roomy(someBytes(size))
		b := roomy(someBytes(size))
		guard.Put(b)
		if !bytes.Equal(b[:cap(want)], want[:cap(want)]) {
			t.Errorf("Put changed %d bytes, or what is behind them", size)
		}
		want, b = roomy(guarded(someBytes(size))), roomy(guarded(someBytes(size)))
		guard.Check(b)
		b[0] ^= 1
		guard.Check(b)
		b[0] ^= 1
		if !bytes.Equal(b[:cap(want)], want[:cap(want)]) {
			t.Errorf("Check changed %d bytes, or what is behind them", size)
		}
	}
}

func TestAnswersAreNewMemory(t *testing.T) {
	for _, size := range edges {
		b := roomy(someBytes(size))
		put := guard.Put(b)
		spoil(put)
		if !bytes.Equal(b, someBytes(size)) {
			t.Errorf("Put of %d bytes hands them out", size)
		}
		b = roomy(guarded(someBytes(size)))
		got, err := guard.Check(b)
		if err != api.OK {
			t.Fatal(err)
		}
		spoil(got)
		wantTold(t, b, someBytes(size))
	}
}

// spoil writes over bytes and over all their spare room.
func spoil(b []byte) {
	all := b[:cap(b)]
	for i := range all {
		all[i] ^= 85
	}
}

func TestAnswersKeepNothing(t *testing.T) {
	b := someBytes(50)
	put := guard.Put(b)
	given := slices.Clone(put)
	got, _ := guard.Check(given)
	spoil(b)
	spoil(given)
	wantTold(t, put, someBytes(50))
	if !bytes.Equal(got, someBytes(50)) {
		t.Error(got)
	}
}
