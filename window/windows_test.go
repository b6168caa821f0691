package window_test

import (
	"bytes"
	"math"
	"slices"
	"testing"

	"satchel/api"
	"satchel/window"
)

// latest is the last time that there is.
const latest = 1<<31 - 1

// notSizes are numbers that no window has as its size, those among them that would be sizes if they were cut short.
var notSizes = []int{math.MinInt, -1 << 32, -1 << 31, -256, -64, -2, -1, 0, 65, 66, 127, 128, 256, 257, 1 << 16, 1 << 31, 1 << 32, 1<<32 + 1, math.MaxInt}

// notTimes are numbers that are no times, those among them that would be times if they were cut short.
var notTimes = []int{math.MinInt, -1 << 32, 7 - 1<<32, -1 << 31, -2, -1, 1 << 31, 1<<31 + 1, 1<<32 - 1, 1 << 32, 1<<32 + 7, math.MaxInt}

// body tells a packet's bytes, as many as its number, that tell it from others.
func body(n int) []byte { return bytes.Repeat([]byte{byte(n), byte(n >> 8), 7}, n)[:n] }

// newWindow tells a window of a size.
func newWindow(t *testing.T, size int) *window.Window {
	t.Helper()
	w, err := window.New(size)
	if err != api.OK || w == nil {
		t.Fatalf("New(%d): %v, %v", size, w, err)
	}
	return w
}

// windowOf tells a window in which so many packets are under way, that were never sent.
func windowOf(t *testing.T, size, packets int) *window.Window {
	t.Helper()
	w := newWindow(t, size)
	for n := 1; n <= packets; n++ {
		wantPush(t, w, n)
	}
	return w
}

// upTo tells the numbers from the first to the last one.
func upTo(first, last int) []int {
	var l []int
	for n := first; n <= last; n++ {
		l = append(l, n)
	}
	return l
}

// wantPush pushes a packet, which has to have this number.
func wantPush(t *testing.T, w *window.Window, n int) {
	t.Helper()
	if got, err := w.Push(body(n)); got != n || err != api.OK {
		t.Errorf("Push: %d, %v; want %d", got, err, n)
	}
}

// wantNoPush says that a packet is refused.
func wantNoPush(t *testing.T, w *window.Window, want api.Errno) {
	t.Helper()
	if got, err := w.Push(body(3)); got != 0 || err != want {
		t.Errorf("Push: %d, %v; want %v", got, err, want)
	}
}

// wantDue says which numbers are due, each with its body.
func wantDue(t *testing.T, w *window.Window, now int, want ...int) {
	t.Helper()
	var got []int
	for _, p := range w.Due(now) {
		got = append(got, p.Seq)
		if !bytes.Equal(p.Body, body(p.Seq)) {
			t.Errorf("Due(%d): the body of %d: %v", now, p.Seq, p.Body)
		}
	}
	if !slices.Equal(got, want) {
		t.Errorf("Due(%d): %v; want %v", now, got, want)
	}
}

// wantAck says how many go by an acknowledgement.
func wantAck(t *testing.T, w *window.Window, n, now, want int) {
	t.Helper()
	if got, err := w.Ack(n, now); got != want || err != api.OK {
		t.Errorf("Ack(%d, %d): %d, %v; want %d", n, now, got, err, want)
	}
}

// wantNoAck says that an acknowledgement is refused.
func wantNoAck(t *testing.T, w *window.Window, n, now int, want api.Errno) {
	t.Helper()
	if got, err := w.Ack(n, now); got != 0 || err != want {
		t.Errorf("Ack(%d, %d): %d, %v; want %v", n, now, got, err, want)
	}
}

// wantWhen says when something is due next.
func wantWhen(t *testing.T, w *window.Window, want int) {
	t.Helper()
	if got, is := w.When(); got != want || !is {
		t.Errorf("When: %d, %v; want %d", got, is, want)
	}
}

// wantNoWhen says that nothing will be due.
func wantNoWhen(t *testing.T, w *window.Window) {
	t.Helper()
	if got, is := w.When(); got != 0 || is {
		t.Errorf("When: %d, %v", got, is)
	}
}

// wantHas says how many are under way, and what the last number is.
func wantHas(t *testing.T, w *window.Window, open, last int) {
	t.Helper()
	if a, b := w.Open(), w.Last(); a != open || b != last {
		t.Errorf("%d under way, the last one is %d; want %d, %d", a, b, open, last)
	}
}

// wantTimes says the mean and the spread, to the last bit.
func wantTimes(t *testing.T, w *window.Window, mean, spread float64) {
	t.Helper()
	if a, b := w.Times(); a != mean || b != spread {
		t.Errorf("Times: %v, %v; want %v, %v", a, b, mean, spread)
	}
}

// spoil writes over bytes and over all their spare room.
func spoil(b []byte) {
	all := b[:cap(b)]
	for i := range all {
		all[i] ^= 85
	}
}

// roomy tells the same bytes with spare room behind them, which holds others.
func roomy(b []byte) []byte {
	all := append(bytes.Clone(b), 90, 91, 92, 93, 94, 95, 96, 97)
	return all[:len(b)]
}
