package window_test

import (
	"testing"

	"satchel/api"
	"satchel/window"
)

func TestOfWhatIsNoWindow(t *testing.T) {
	copied := *windowOf(t, 3, 2)
	for what, w := range map[string]*window.Window{"nil": nil, "a zero one": {}, "a copy": &copied} {
		t.Log(what)
		for _, now := range append([]int{0, 1, 8, latest}, notTimes...) {
			for _, n := range []int{-1, 0, 1, 2, 3} {
				wantNoAck(t, w, n, now, api.ErrNil)
			}
			wantDue(t, w, now)
		}
		wantNoPush(t, w, api.ErrNil)
		if n, err := w.Push(nil); n != 0 || err != api.ErrNil {
			t.Error(n, err)
		}
		wantHas(t, w, 0, 0)
		wantNoWhen(t, w)
		wantTimes(t, w, 0, 0)
	}
}

// What is none is told ahead of what is full.
func TestACopyOfAFullWindow(t *testing.T) {
	w := windowOf(t, 1, 1)
	copied := *w
	wantNoPush(t, &copied, api.ErrNil)
	wantNoPush(t, w, api.ErrFull)
}

// What is done to a copy by value does nothing to the window.
func TestACopyOfAWindowDoesNothingToIt(t *testing.T) {
	w := windowOf(t, 3, 2)
	copied := *w
	copied.Due(40)
	copied.Ack(2, 50)
	copied.Push(nil)
	wantHas(t, w, 2, 2)
	wantWhen(t, w, 0)
	wantDue(t, w, 3, 1, 2)
	wantWhen(t, w, 11)
}

// Of several the least time is told, wherever in the window its packet is.
func TestWhenIsTheLeastOne(t *testing.T) {
	for gap := 1; gap < 8; gap++ {
		w := windowOf(t, 2, 1)
		wantDue(t, w, 0, 1)
		wantPush(t, w, 2)
		wantDue(t, w, gap, 2)
		wantWhen(t, w, 8)
		wantDue(t, w, 8, 1)
		wantWhen(t, w, 8+gap)
		wantAck(t, w, 1, 8, 1)
		wantWhen(t, w, 8+gap)
		wantAck(t, w, 2, 8, 1)
		wantNoWhen(t, w)
	}
}

// A time that is over is told as it was, as long as none is under way that was never sent.
func TestWhenIsOver(t *testing.T) {
	w := windowOf(t, 3, 2)
	wantDue(t, w, 0, 1, 2)
	wantAck(t, w, 0, 20, 0)
	wantWhen(t, w, 8)
	wantAck(t, w, 1, 25, 1)
	wantWhen(t, w, 8)
	wantPush(t, w, 3)
	wantWhen(t, w, 25)
	wantDue(t, w, 25, 2, 3)
	mean, spread := w.Times()
	if mean != 6.625 || spread != 6 {
		t.Error(mean, spread) // 31 ticks
	}
	wantWhen(t, w, 25+31)
}

// The window's own time is told while one was never sent, whichever it is, and however the others are.
func TestWhenOneWasNeverSent(t *testing.T) {
	w := windowOf(t, 3, 1)
	wantWhen(t, w, 0)
	wantDue(t, w, 4, 1)
	wantWhen(t, w, 12)
	wantPush(t, w, 2)
	wantWhen(t, w, 4)
	wantAck(t, w, 0, 7, 0)
	wantWhen(t, w, 7)
	wantPush(t, w, 3)
	wantWhen(t, w, 7)
	wantAck(t, w, 2, 9, 2)
	wantWhen(t, w, 9)
	wantDue(t, w, 9, 3)
	wantTimes(t, w, 4.125, 1)
	wantWhen(t, w, 18)
}

// What was asked for, and what was refused, leaves a window as it was.
func TestAskingChangesNothing(t *testing.T) {
	w := windowOf(t, 3, 3)
	wantDue(t, w, 10, 1, 2, 3)
	wantAck(t, w, 1, 12, 1)
	for range 5 {
		wantWhen(t, w, 18)
		wantHas(t, w, 2, 3)
		wantTimes(t, w, 3.75, 1.25)
		wantNoAck(t, w, 4, 90, api.ErrRange)
		wantNoAck(t, w, 3, latest+1, api.ErrRange)
		wantDue(t, w, -1)
		wantDue(t, w, latest+1)
	}
	wantPush(t, w, 4)
	for range 5 {
		wantNoPush(t, w, api.ErrFull)
		wantWhen(t, w, 12)
		wantHas(t, w, 3, 4)
	}
	wantDue(t, w, 17, 4)
	wantDue(t, w, 18, 2, 3)
}
