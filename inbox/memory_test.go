package inbox_test

import (
	"bytes"
	"runtime"
	"testing"
	"weak"

	"satchel/api"
	"satchel/inbox"
)

// lengths are how many bytes bodies have, about those at which memory is laid out in another way.
var lengths = []int{0, 1, 2, 7, 8, 9, 15, 16, 17, 31, 32, 33, 100, 1000, 1400, 40000}

// of tells so many bytes, which tell a number.
func of(n, size int) []byte { return bytes.Repeat([]byte{byte(n), 7, 0}, size)[:size] }

// What was handed in may be written over at once, and is not written to.
func TestTakeKeepsNothingOfWhatIsHandedIn(t *testing.T) {
	for _, size := range lengths {
		x := newInbox(t, 4)
		for _, n := range []int{3, 2, 4, 2, 9, 0} {
			b := roomy(of(n, size))
			was := bytes.Clone(b[:cap(b)])
			x.Take(n, b)
			if !bytes.Equal(b[:cap(b)], was) {
				t.Errorf("%d bytes: %v", size, b[:cap(b)])
			}
			spoil(b)
		}
		b := roomy(of(1, size))
		l, err := x.Take(1, b)
		spoil(b)
		if err != api.OK || len(l) != 4 {
			t.Fatal(size, len(l), err)
		}
		for i, b := range l {
			if !bytes.Equal(b, of(i+1, size)) {
				t.Errorf("%d bytes: %d: %v", size, i+1, b)
			}
		}
	}
}

// All that waits may be handed in in one and the same memory.
func TestTakeOfOneMemory(t *testing.T) {
	x := newInbox(t, 64)
	b := make([]byte, 3, 9)
	for n := 64; n > 1; n-- {
		copy(b, of(n, 3))
		wantBodies(t, x, n, b)
	}
	copy(b, of(1, 3))
	l, _ := x.Take(1, b)
	clear(b[:cap(b)])
	for i, b := range l {
		if !bytes.Equal(b, of(i+1, 3)) {
			t.Errorf("%d: %v", i+1, b)
		}
	}
}

// taken tells what is told of three numbers, of which two waited.
func taken(t *testing.T, x *inbox.Inbox, first, size int) [][]byte {
	t.Helper()
	x.Take(first+2, roomy(of(first+2, size)))
	x.Take(first+1, roomy(of(first+1, size)))
	l, err := x.Take(first, roomy(of(first, size)))
	if err != api.OK || len(l) != 3 {
		t.Fatal(first, size, l, err)
	}
	return l
}

// The spare room of what is told has nothing in it.
func TestSpareRoomIsNew(t *testing.T) {
	for _, size := range lengths {
		x := newInbox(t, 64)
		for round := range 50 {
			l := taken(t, x, 1+3*round, size)
			for i, b := range l {
				if !bytes.Equal(b, of(1+3*round+i, size)) || bytes.Trim(b[:cap(b)][size:], "\x00") != nil {
					t.Errorf("%d bytes: %v, with %v in the spare room", size, b, b[:cap(b)][size:])
				}
			}
			for _, b := range l[len(l):cap(l)] {
				if b != nil {
					t.Errorf("%d bytes: %v in the spare room", size, b)
				}
			}
		}
	}
}

// Nobody else has what is told: it may be written over, and it may grow.
func TestWhatIsToldIsNotShared(t *testing.T) {
	for _, size := range lengths {
		x := newInbox(t, 8)
		x.Take(5, roomy(of(5, size)))
		x.Take(6, roomy(of(6, size)))
		l := taken(t, x, 1, size)
		for i := range l {
			for k, b := range l {
				if k >= i && !bytes.Equal(b, of(k+1, size)) {
					t.Errorf("%d bytes: %d: %v, behind what was done to %d", size, k+1, b, i)
				}
			}
			spoil(l[i])
			l[i] = append(l[i], of(99, 5)...)
		}
		all := l[:cap(l)]
		for i := range all {
			all[i] = of(98, 2)
		}
		wantIs(t, x, 4, 5, 6)
		wantBodies(t, x, 4, of(4, size), of(4, size), of(5, size), of(6, size))
	}
}

// told takes two bodies and what is told of them, and tells just where these lie.
func told(t *testing.T, x *inbox.Inbox, first int) []weak.Pointer[byte] {
	t.Helper()
	var l []weak.Pointer[byte]
	x.Take(first+1, of(first+1, 1000))
	told, _ := x.Take(first, of(first, 1000))
	for _, b := range told {
		l = append(l, weak.Make(&b[0]))
	}
	return l
}

// What was told is not kept, though the inbox is.
func TestWhatWasToldIsNotKept(t *testing.T) {
	x := newInbox(t, 64)
	var l []weak.Pointer[byte]
	for n := 1; n <= 20; n += 2 {
		l = append(l, told(t, x, n)...)
	}
	runtime.GC()
	for i, p := range l {
		if p.Value() != nil {
			t.Errorf("the body of %d is kept", i+1)
		}
	}
	if len(l) != 20 {
		t.Error(len(l))
	}
	wantIs(t, x, 21)
}
