package window_test

import (
	"bytes"
	"testing"

	"satchel/api"
	"satchel/window"
)

func TestExamples(t *testing.T) {
	if w, err := window.New(0); w != nil || err != api.ErrArg {
		t.Errorf("New(0): %v, %v", w, err)
	}
	w := windowOf(t, 2, 2)
	wantNoPush(t, w, api.ErrFull)
	wantDue(t, w, 10, 1, 2)
	wantDue(t, w, 17)
	wantDue(t, w, 18, 1, 2)
	wantDue(t, w, 33)
	wantDue(t, w, 34, 1, 2)
	wantWhen(t, w, 66)
	wantAck(t, w, 1, 40, 1)
	wantAck(t, w, 1, 40, 0)
	wantNoAck(t, w, 3, 40, api.ErrRange)
	wantHas(t, w, 1, 2)
	wantPush(t, w, 3)
	wantTimes(t, w, 4, 1)

	w = windowOf(t, 1, 1)
	wantDue(t, w, 0, 1)
	wantAck(t, w, 1, 12, 1)
	wantTimes(t, w, 5, 2.75)
}

// The sixth of the whole's examples.
func TestAPacketThatNobodyAcknowledges(t *testing.T) {
	w := windowOf(t, 4, 1)
	for now := 10; now < 400; now++ {
		switch now {
		case 10, 18, 34, 66, 126, 186, 246, 306, 366:
			wantDue(t, w, now, 1)
		default:
			wantDue(t, w, now)
		}
	}
}

func TestNewOfEachSize(t *testing.T) {
	for size := 1; size <= 64; size++ {
		w := newWindow(t, size)
		wantHas(t, w, 0, 0)
		wantNoWhen(t, w)
		wantTimes(t, w, 4, 1)
		wantDue(t, w, 0)
		wantAck(t, w, 0, 0, 0)
		wantNoAck(t, w, 1, 0, api.ErrRange)
	}
	for _, size := range notSizes {
		if w, err := window.New(size); w != nil || err != api.ErrArg {
			t.Errorf("New(%d): %v, %v", size, w, err)
		}
	}
}

// A window takes as many as its size says, and again as many as went.
func TestFullAndRoomAgain(t *testing.T) {
	for size := 1; size <= 64; size++ {
		for goes := 1; goes <= size; goes++ {
			w := windowOf(t, size, size)
			for range 3 {
				wantNoPush(t, w, api.ErrFull)
			}
			wantHas(t, w, size, size)
			wantAck(t, w, goes, 5, goes)
			wantHas(t, w, size-goes, size)
			for n := size + 1; n <= size+goes; n++ {
				wantPush(t, w, n)
			}
			wantNoPush(t, w, api.ErrFull)
			wantHas(t, w, size, size+goes)
			wantDue(t, w, 5, upTo(goes+1, goes+size)...)
		}
	}
}

// What is full stays so till something is acknowledged: sending makes no room.
func TestSendingMakesNoRoom(t *testing.T) {
	for _, size := range []int{1, 2, 64} {
		w := windowOf(t, size, size)
		for now := range 200 {
			w.Due(now)
			w.Ack(0, now)
			wantNoPush(t, w, api.ErrFull)
		}
		wantHas(t, w, size, size)
	}
}

// Numbers go on behind one another for long, whatever went, and are never given anew.
func TestNumbersGoOn(t *testing.T) {
	for _, size := range []int{1, 2, 3, 64} {
		w := newWindow(t, size)
		for n := 1; n <= 1000; n++ {
			if n > size {
				wantAck(t, w, n-size, 0, 1)
			}
			wantPush(t, w, n)
			wantHas(t, w, min(n, size), n)
		}
		wantDue(t, w, 0, upTo(1001-size, 1000)...)
		wantAck(t, w, 1000, 1, size)
		wantHas(t, w, 0, 1000)
		wantPush(t, w, 1001)
	}
}

func TestPushOfEachLength(t *testing.T) {
	for _, size := range []int{0, 1, 2, 7, 8, 9, 255, 256, 1399, 1400, 1401, 1500, 1 << 16, 1 << 20} {
		w := newWindow(t, 2)
		b := bytes.Repeat([]byte{byte(size), 3}, size)[:size]
		for range 2 {
			if _, err := w.Push(b); err != api.OK {
				t.Errorf("%d bytes: %v", size, err)
			}
		}
		for _, now := range []int{0, 8, 24} {
			l := w.Due(now)
			if len(l) != 2 || !bytes.Equal(l[0].Body, b) || !bytes.Equal(l[1].Body, b) {
				t.Errorf("%d bytes, at %d: %d due, or not as they came", size, now, len(l))
			}
		}
	}
	w := newWindow(t, 1)
	if n, err := w.Push(nil); n != 1 || err != api.OK {
		t.Errorf("nil: %d, %v", n, err)
	}
	if l := w.Due(0); len(l) != 1 || l[0].Seq != 1 || len(l[0].Body) != 0 {
		t.Errorf("nil: %v", l)
	}
}

func TestPushKeepsNothingThatWasHandedIn(t *testing.T) {
	for size := range 40 {
		b := roomy(body(size))
		was := bytes.Clone(b[:cap(b)])
		w := newWindow(t, 2)
		w.Push(b)
		w.Due(0)
		w.Due(8)
		if !bytes.Equal(b[:cap(b)], was) {
			t.Errorf("%d bytes were changed, or what is behind them", size)
		}
		spoil(b)
		if l := w.Due(24); len(l) != 1 || !bytes.Equal(l[0].Body, body(size)) {
			t.Errorf("%d bytes: what was pushed changes with what was handed in: %v", size, l)
		}
	}
}

func TestDueIsNewMemory(t *testing.T) {
	for size := range 40 {
		w := newWindow(t, 2)
		w.Push(roomy(body(size)))
		w.Push(roomy(body(size)))
		for _, now := range []int{0, 8, 24, 56} {
			l := w.Due(now)
			if len(l) != 2 {
				t.Fatalf("at %d: %v", now, l)
			}
			spoil(l[0].Body)
			if b := l[1].Body; !bytes.Equal(b, body(size)) || bytes.Trim(b[:cap(b)][size:], "\x00") != nil {
				t.Errorf("%d bytes, at %d: %v, with %v in the spare room", size, now, b, b[:cap(b)][size:])
			}
			spoil(l[1].Body)
			clear(l[:cap(l)])
		}
		wantHas(t, w, 2, 2)
		if l := w.Due(200); len(l) != 2 || l[0].Seq != 1 || l[1].Seq != 2 || !bytes.Equal(l[0].Body, body(size)) {
			t.Errorf("%d bytes: %v", size, l)
		}
	}
}

// What was told stays, whatever is done to the window behind it.
func TestWhatWasToldStays(t *testing.T) {
	w := windowOf(t, 3, 3)
	l := w.Due(0)
	w.Due(8)
	w.Ack(2, 9)
	wantPush(t, w, 4)
	w.Due(50)
	if len(l) != 3 || l[0].Seq != 1 || l[1].Seq != 2 || l[2].Seq != 3 || !bytes.Equal(l[2].Body, body(3)) || !bytes.Equal(l[0].Body, body(1)) {
		t.Error(l)
	}
}

func TestWindowsAreApart(t *testing.T) {
	a, b := windowOf(t, 2, 1), windowOf(t, 2, 1)
	wantDue(t, a, 100, 1)
	wantAck(t, a, 1, 140, 1)
	wantPush(t, a, 2)
	wantHas(t, b, 1, 1)
	wantWhen(t, b, 0)
	wantTimes(t, b, 4, 1)
	wantDue(t, b, 3, 1)
	wantWhen(t, b, 11)
	wantWhen(t, a, 140)
}
