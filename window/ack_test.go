package window_test

import (
	"math"
	"testing"

	"satchel/api"
)

// Of each number that was given just those up to it go that did not go yet, and the rest stays, in order.
func TestAckOfEachNumber(t *testing.T) {
	for _, packets := range []int{0, 1, 2, 3, 63, 64} {
		for first := range packets + 1 {
			for second := range packets + 1 {
				w := windowOf(t, 64, packets)
				wantAck(t, w, first, 0, first)
				wantAck(t, w, second, 0, max(0, second-first))
				gone := max(first, second)
				wantHas(t, w, packets-gone, packets)
				wantDue(t, w, 0, upTo(gone+1, packets)...)
			}
		}
	}
}

func TestAckOfNumbersThatWereNotGiven(t *testing.T) {
	for _, last := range []int{0, 1, 2, 64} {
		w := windowOf(t, 64, last)
		for range 2 {
			for _, n := range []int{math.MinInt, -1 << 32, -1 << 31, -2, -1, last + 1, last + 2, 1<<31 - 1, 1 << 31, 1 << 32, 1<<32 + 1, math.MaxInt} {
				wantNoAck(t, w, n, 70, api.ErrRange)
			}
			wantHas(t, w, last, last)
			wantTimes(t, w, 4, 1)
		}
		// Had one of them let time pass, they were sent at 70.
		wantDue(t, w, 0, upTo(1, last)...)
		wantDue(t, w, 8, upTo(1, last)...)
	}
}

// A number that went may be acknowledged again, as long as it was given.
func TestAckAgain(t *testing.T) {
	w := windowOf(t, 3, 3)
	wantDue(t, w, 0, 1, 2, 3)
	wantAck(t, w, 2, 3, 2)
	mean, spread := w.Times()
	for now := 4; now < 9; now++ {
		for n := range 3 {
			wantAck(t, w, n, now, 0)
			wantTimes(t, w, mean, spread)
			wantHas(t, w, 1, 3)
		}
	}
	wantAck(t, w, 3, 9, 1)
	wantAck(t, w, 3, 9, 0)
	wantAck(t, w, 0, 9, 0)
	wantNoAck(t, w, 4, 9, api.ErrRange)
	wantHas(t, w, 0, 3)
	wantNoWhen(t, w)
}

func TestAckAtNoTime(t *testing.T) {
	w := windowOf(t, 2, 2)
	wantDue(t, w, 5, 1, 2)
	for _, now := range notTimes {
		for _, n := range []int{-1, 0, 1, 2, 3} {
			wantNoAck(t, w, n, now, api.ErrRange)
		}
	}
	wantHas(t, w, 2, 2)
	wantTimes(t, w, 4, 1)
	wantWhen(t, w, 13)
	wantDue(t, w, 12)
	wantDue(t, w, 13, 1, 2)
}

// Just of what was sent once it is told how long its answer took: the first of these was sent three times, the second twice, the third once, the fourth never.
func TestTimesAreOfThoseThatWereSentOnce(t *testing.T) {
	for acked := 1; acked <= 4; acked++ {
		w := windowOf(t, 4, 1)
		wantDue(t, w, 0, 1)
		wantDue(t, w, 8, 1)
		wantPush(t, w, 2)
		wantDue(t, w, 16, 2)
		wantDue(t, w, 24, 1, 2)
		wantPush(t, w, 3)
		wantDue(t, w, 30, 3)
		wantPush(t, w, 4)
		wantAck(t, w, acked, 34, acked)
		if acked < 3 {
			wantTimes(t, w, 4, 1)
		} else {
			wantTimes(t, w, 4, 0.75)
		}
	}
}

func TestTimesOfEachAnswer(t *testing.T) {
	for d := range 3000 {
		w := windowOf(t, 1, 1)
		wantDue(t, w, 7, 1)
		wantAck(t, w, 1, 7+d, 1)
		wantTimes(t, w, 4+(float64(d)-4)/8, 1+(math.Abs(float64(d)-4)-1)/4)
	}
}

// They go one by one: what each tells goes into the mean ahead of the next one's spread.
func TestTimesOfSeveralAtOnce(t *testing.T) {
	for _, x := range []struct {
		acked        int
		mean, spread float64
	}{
		{0, 4, 1},
		{1, 6, 4.75},                // 20 ticks: 4 + 16 / 8, and ahead of it 1 + (16 - 1) / 4
		{2, 7.25, 6.0625},           // 16 ticks: 6 + 10 / 8, 4.75 + (10 - 4.75) / 4
		{3, 7.96875, 5.984375},      // 13 ticks: 7.25 + 5.75 / 8, 6.0625 + (5.75 - 6.0625) / 4
		{4, 8.59765625, 5.74609375}, // likewise
	} {
		for _, onebyone := range []bool{true, false} {
			w := windowOf(t, 4, 1)
			wantDue(t, w, 0, 1)
			wantPush(t, w, 2)
			wantDue(t, w, 4, 2)
			wantPush(t, w, 3)
			wantPush(t, w, 4)
			wantDue(t, w, 7, 3, 4)
			for n := 1; onebyone && n < x.acked; n++ {
				wantAck(t, w, n, 20, 1)
			}
			w.Ack(x.acked, 20)
			wantHas(t, w, 4-x.acked, 4)
			wantTimes(t, w, x.mean, x.spread)
		}
	}
}

// An answer that took next to all the time that there is.
func TestTimesOfTheLongestAnswer(t *testing.T) {
	w := windowOf(t, 2, 2)
	wantDue(t, w, 0, 1, 2)
	wantAck(t, w, 1, latest, 1)
	wantTimes(t, w, 4+0.125*(latest-4), 1+0.25*(latest-5))
	wantAck(t, w, 2, latest, 1)
	wantPush(t, w, 3)
	wantDue(t, w, 0, 3)
	wantWhen(t, w, latest+60)
}

// An acknowledgement lets time pass, also if nothing goes by it, or it comes again.
func TestAckLetsTimePass(t *testing.T) {
	w := windowOf(t, 3, 1)
	wantWhen(t, w, 0)
	wantAck(t, w, 0, 30, 0)
	wantWhen(t, w, 30)
	wantDue(t, w, 0, 1)
	wantWhen(t, w, 38)
	wantAck(t, w, 1, 33, 1)
	wantAck(t, w, 1, 41, 0)
	wantPush(t, w, 2)
	wantWhen(t, w, 41)
}

// A time that runs back counts as the window's own.
func TestAckAtATimeThatRunsBack(t *testing.T) {
	for _, now := range []int{0, 1, 99, 100, 103, 107} {
		w := windowOf(t, 2, 2)
		wantDue(t, w, 100, 1, 2)
		wantDue(t, w, 104)
		wantAck(t, w, 1, now, 1)
		d := float64(max(now, 104) - 100)
		wantTimes(t, w, 4+(d-4)/8, 1+(math.Abs(d-4)-1)/4)
		wantWhen(t, w, 108)
		wantPush(t, w, 3)
		wantWhen(t, w, max(now, 104))
	}
}

func TestAckAtTheEndOfTime(t *testing.T) {
	w := windowOf(t, 3, 2)
	wantDue(t, w, latest-4, 1, 2)
	wantNoAck(t, w, 1, latest+1, api.ErrRange)
	wantAck(t, w, 1, latest, 1)
	wantTimes(t, w, 4, 0.75)
	wantAck(t, w, 2, 0, 1)
	wantTimes(t, w, 4, 0.5625)
	wantPush(t, w, 3)
	wantWhen(t, w, latest)
}
