package window_test

import (
	"math"
	"testing"

	"satchel/window"
)

// windowThatWaits tells a window of two that waits so many ticks for an answer to what is sent for the first time, with two packets under way that were never sent, and its time.
// Many answers of the same time bring the mean there, and the spread to nothing; one that is a tick quicker makes both a tick together, but for an eighth.
func windowThatWaits(t *testing.T, wait int) (*window.Window, int, int) {
	t.Helper()
	w := newWindow(t, 2)
	n, now := 0, 0
	answer := func(d int) {
		n++
		wantPush(t, w, n)
		wantDue(t, w, now, n)
		now += d
		wantAck(t, w, n, now, 1)
	}
	for range 250 {
		answer(wait - 1)
	}
	answer(wait - 2)
	mean, spread := w.Times()
	if x := mean + 4*spread; math.Ceil(x) != float64(wait) {
		t.Fatalf("a mean of %v and a spread of %v, to wait for %d ticks", mean, spread, wait)
	}
	wantPush(t, w, n+1)
	wantPush(t, w, n+2)
	return w, n, now
}

// Whatever the wait is, it is doubled each time that nobody answers, till it is 60; a tick ahead of it nothing is due.
func TestEachTickAroundTheOneThatIsDue(t *testing.T) {
	for wait := 2; wait <= 60; wait++ {
		w, n, now := windowThatWaits(t, wait)
		wantWhen(t, w, now)
		wantDue(t, w, now, n+1, n+2)
		next := wait
		for range 12 {
			wantWhen(t, w, now+next)
			wantDue(t, w, now)
			wantDue(t, w, now+1)
			wantDue(t, w, now+next-1)
			wantWhen(t, w, now+next)
			now += next
			wantDue(t, w, now, n+1, n+2)
			wantDue(t, w, now)
			next = min(2*next, 60)
		}
		if next != 60 {
			t.Error(wait, next)
		}
	}
}

// What is asked for late is due from then on again: its wait begins when it is sent.
func TestDueLate(t *testing.T) {
	for late := range 100 {
		w := windowOf(t, 1, 1)
		wantDue(t, w, 50, 1)
		wantDue(t, w, 58+late, 1)
		wantWhen(t, w, 58+late+16)
		wantDue(t, w, 58+late+15)
		wantDue(t, w, 58+late+16+late, 1)
		wantWhen(t, w, 58+late+16+late+32)
	}
}

// One is due by itself, those ahead of it and behind it notwithstanding, and those that are due together come in order.
func TestDueOfEachByItself(t *testing.T) {
	w := windowOf(t, 4, 1)
	wantDue(t, w, 0, 1)
	wantPush(t, w, 2)
	wantDue(t, w, 3, 2)
	wantPush(t, w, 3)
	wantDue(t, w, 5, 3)
	wantWhen(t, w, 8)
	wantDue(t, w, 7)
	wantDue(t, w, 8, 1)
	wantWhen(t, w, 11)
	wantPush(t, w, 4)
	wantDue(t, w, 10, 4)
	wantDue(t, w, 11, 2)
	wantWhen(t, w, 13)
	wantDue(t, w, 12)
	wantDue(t, w, 13, 3)
	wantWhen(t, w, 18)
	wantDue(t, w, 18, 4)
	wantWhen(t, w, 24)
	wantDue(t, w, 29, 1, 2, 3)
	wantWhen(t, w, 34)
	wantDue(t, w, 34, 4)
	wantDue(t, w, 61, 1, 2, 3)
	wantWhen(t, w, 66)
}

// How long is waited is told when it is sent: an answer behind that moves nothing that is under way but what is sent from then on.
func TestWaitsAreToldWhenSent(t *testing.T) {
	w := windowOf(t, 4, 3)
	wantDue(t, w, 0, 1, 2, 3)
	wantAck(t, w, 1, 1, 1)
	wantTimes(t, w, 3.625, 1.5) // 10 ticks
	wantWhen(t, w, 8)
	wantDue(t, w, 7)
	wantPush(t, w, 4)
	wantDue(t, w, 8, 2, 3, 4)
	wantWhen(t, w, 18)
	wantAck(t, w, 3, 17, 2)
	wantTimes(t, w, 3.625, 1.5)
	wantDue(t, w, 18, 4)
	wantWhen(t, w, 38)
}

// The second time a wait is that of the mean as it is then, doubled, not twice what it was.
func TestWaitsAreDoubledOfTheMeanThatIs(t *testing.T) {
	w := windowOf(t, 4, 3)
	wantDue(t, w, 0, 1, 2, 3)
	wantAck(t, w, 1, 4, 1)
	wantTimes(t, w, 4, 0.75) // 7 ticks
	wantDue(t, w, 8, 2, 3)
	wantWhen(t, w, 22)
	wantDue(t, w, 21)
	wantDue(t, w, 22, 2, 3)
	wantWhen(t, w, 50)
	wantAck(t, w, 3, 50, 2)
	wantTimes(t, w, 4, 0.75)
}

func TestDueOfAllSizes(t *testing.T) {
	for size := 1; size <= 64; size++ {
		w := windowOf(t, size, size)
		wantWhen(t, w, 0)
		wantDue(t, w, 9, upTo(1, size)...)
		wantWhen(t, w, 17)
		wantDue(t, w, 17, upTo(1, size)...)
		wantAck(t, w, size-1, 18, size-1)
		wantDue(t, w, 32)
		wantDue(t, w, 33, size)
		wantAck(t, w, size, 34, 1)
		wantDue(t, w, 1000)
		wantNoWhen(t, w)
	}
}

func TestDueAtNoTime(t *testing.T) {
	w := windowOf(t, 2, 1)
	for _, now := range notTimes {
		wantDue(t, w, now)
	}
	wantWhen(t, w, 0)
	wantDue(t, w, 6, 1)
	wantPush(t, w, 2)
	for _, now := range notTimes {
		wantDue(t, w, now)
	}
	wantWhen(t, w, 6)
	wantDue(t, w, 13, 2)
	wantDue(t, w, 14, 1)
}

// A time that runs back counts as the window's own: what was never sent is sent then, and nothing is due that was not.
func TestDueAtATimeThatRunsBack(t *testing.T) {
	for _, now := range []int{0, 1, 5, 18, 19, 20} {
		w := windowOf(t, 3, 1)
		wantDue(t, w, 20, 1)
		for range 3 {
			wantDue(t, w, now)
		}
		wantPush(t, w, 2)
		wantWhen(t, w, 20)
		wantDue(t, w, now, 2)
		wantWhen(t, w, 28)
		wantDue(t, w, 27)
		wantDue(t, w, now)
		wantAck(t, w, 0, 28, 0)
		wantDue(t, w, now, 1, 2)
		wantWhen(t, w, 44)
	}
}

// Due lets time pass, also if nothing is.
func TestDueLetsTimePass(t *testing.T) {
	w := newWindow(t, 2)
	wantDue(t, w, 77)
	wantPush(t, w, 1)
	wantWhen(t, w, 77)
	wantDue(t, w, 5, 1)
	wantWhen(t, w, 85)
	wantDue(t, w, 84)
	wantPush(t, w, 2)
	wantWhen(t, w, 84)
}

func TestDueAtTheEndsOfTime(t *testing.T) {
	w := windowOf(t, 2, 1)
	wantDue(t, w, 0, 1)
	wantDue(t, w, latest+1)
	wantWhen(t, w, 8)
	wantDue(t, w, latest, 1)
	wantWhen(t, w, latest+16)
	wantPush(t, w, 2)
	wantWhen(t, w, latest)
	wantDue(t, w, latest+1)
	wantDue(t, w, latest, 2)
	wantWhen(t, w, latest+8)
	for _, now := range []int{latest, 0, latest - 1, latest + 8, latest + 16} {
		wantDue(t, w, now)
	}
	wantWhen(t, w, latest+8)
	wantHas(t, w, 2, 2)
	wantAck(t, w, 2, latest, 2)
	wantTimes(t, w, 3.5, 1.75)
	wantNoWhen(t, w)
}
