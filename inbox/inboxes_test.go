package inbox_test

import (
	"bytes"
	"math"
	"slices"
	"strconv"
	"testing"

	"satchel/api"
	"satchel/inbox"
)

// lastSeq is the last number that a body may have.
const lastSeq = 1<<31 - 2

// notSizes are numbers that no inbox has as its size, those among them that would be sizes if they were cut short.
var notSizes = []int{math.MinInt, -1 << 32, -1 << 31, -256, -64, -2, -1, 0, 65, 66, 127, 128, 256, 257, 1 << 16, 1 << 31, 1 << 32, 1<<32 + 1, math.MaxInt}

// notNumbers are numbers that no body has, those among them that would be numbers if they were cut short.
var notNumbers = []int{math.MinInt, math.MinInt + 1, -1 << 32, 1 - 1<<32, -1 << 31, -65, -64, -63, -2, -1, 0, 1<<31 - 1, 1 << 31, 1<<31 + 1, 1<<32 - 1, 1 << 32, 1<<32 + 1, 1<<32 + 2, math.MaxInt}

// body tells a number's bytes, which tell it from others.
func body(n int) []byte { return []byte("the body of " + strconv.Itoa(n)) }

// bodies tells those of several numbers.
func bodies(l []int) [][]byte {
	var all [][]byte
	for _, n := range l {
		all = append(all, body(n))
	}
	return all
}

// upTo tells the numbers from the first to the last one.
func upTo(first, last int) []int {
	var l []int
	for n := first; n <= last; n++ {
		l = append(l, n)
	}
	return l
}

// newInbox tells an inbox of a size.
func newInbox(t *testing.T, size int) *inbox.Inbox {
	t.Helper()
	x, err := inbox.New(size)
	if err != api.OK || x == nil {
		t.Fatalf("New(%d): %v, %v", size, x, err)
	}
	return x
}

// inboxAt tells an inbox of a size that awaits a number.
func inboxAt(t *testing.T, size, next int) *inbox.Inbox {
	t.Helper()
	x := newInbox(t, size)
	for n := 1; n < next; n++ {
		wantTake(t, x, n, n)
	}
	return x
}

// wantBodies says that a body is taken, and what is told then.
func wantBodies(t *testing.T, x *inbox.Inbox, seq int, b []byte, want ...[]byte) {
	t.Helper()
	if got, err := x.Take(seq, b); !slices.EqualFunc(got, want, bytes.Equal) || err != api.OK {
		t.Errorf("Take(%d): %q, %v; want %q", seq, got, err, want)
	}
}

// wantTake says that a number is taken, and which numbers are told then.
func wantTake(t *testing.T, x *inbox.Inbox, seq int, want ...int) {
	t.Helper()
	wantBodies(t, x, seq, body(seq), bodies(want)...)
}

// wantNoTake says that a number is refused.
func wantNoTake(t *testing.T, x *inbox.Inbox, seq int, want api.Errno) {
	t.Helper()
	for _, b := range [][]byte{nil, {1, 2}} {
		if got, err := x.Take(seq, b); len(got) > 0 || err != want {
			t.Errorf("Take(%d): %q, %v; want %v", seq, got, err, want)
		}
	}
}

// wantIs says which number is awaited, and which ones are held.
func wantIs(t *testing.T, x *inbox.Inbox, next int, held ...int) {
	t.Helper()
	if a, b := x.Next(), x.Held(); a != next || b != len(held) {
		t.Errorf("%d is awaited, %d are held; want %d, and %v", a, b, next, held)
	}
	for n := -130; n < next+200; n++ {
		if is := x.Has(n); is != (n >= 1 && n < next || slices.Contains(held, n)) {
			t.Errorf("Has(%d): %v", n, is)
		}
	}
	for _, n := range append(notNumbers, lastSeq-1, lastSeq) {
		if x.Has(n) {
			t.Errorf("Has(%d)", n)
		}
	}
}

// spoil writes over bytes and over all their spare room.
func spoil(b []byte) {
	all := b[:cap(b)]
	for i := range all {
		all[i] ^= 85
	}
}

// roomy tells the same bytes with spare room behind them, which holds others.
func roomy(b []byte) []byte {
	all := append(bytes.Clone(b), 90, 91, 92, 93, 94, 95, 96, 97)
	return all[:len(b)]
}
