package link_test

import (
	"testing"

	"satchel/api"
)

// A Syn goes at once, and again behind eight ticks each; a time that goes back counts as that of the last Syn.
func TestTicksOfSyns(t *testing.T) {
	for _, first := range []int{0, 1, 7, 8, 100, maxID - 30} {
		a := newAgent(t, 5, 4)
		wantTick(t, a, first, syn(5))
		for range 3 {
			for d := range 8 {
				wantTick(t, a, first+d)
			}
			for _, now := range notTimes {
				wantTick(t, a, now)
			}
			wantTick(t, a, 0)
			wantTick(t, a, first/2)
			wantTick(t, a, first+7)
			first += 8
			wantTick(t, a, first, syn(5))
		}
		wantIs(t, a, standing{1, 5, 0, 0, 0})
	}
	a := newAgent(t, maxID, 1)
	wantTick(t, a, 3, syn(maxID))
	wantTick(t, a, 1000, syn(maxID)) // so long behind: the eight ticks are from this one on
	wantTick(t, a, 1007)
	wantTick(t, a, 10)
	wantTick(t, a, 1008, syn(maxID))
	wantTick(t, a, maxID, syn(maxID))
	wantTick(t, a, maxID)
}

// Times that are none change nothing: a Syn that never went goes then, and what is owed is so still.
func TestTicksAtNoTime(t *testing.T) {
	a := newAgent(t, 5, 4)
	for _, now := range notTimes {
		wantTick(t, a, now)
	}
	wantTick(t, a, 0, syn(5))
	for _, l := range bothKinds(t, 4) {
		wantSend(t, l, body(1), api.OK)
		wantFrame(t, l, data(5, 9, 1, 0, body(1)), 0, api.OK, body(1))
		for _, now := range notTimes {
			wantTick(t, l, now)
		}
		wantIs(t, l, standing{2, 5, 9, 1, 1})
		wantTick(t, l, 0, data(5, 9, 1, 1, body(1)))
	}
	d := newDaemon(t, 9, 4)
	wantFrame(t, d, syn(5), 0, api.OK)
	wantFrame(t, d, syn(4), 0, api.ErrMissing)
	wantFrame(t, d, data(5, 9, 1, 0, body(1)), 0, api.OK, body(1))
	for _, now := range notTimes {
		wantTick(t, d, now)
	}
	wantTick(t, d, maxID, welcome(5, 9), reset(4, 9), ack(5, 9, 1))
}

// An agent's end that was welcomed asks no more, also if it never asked.
func TestNoSynOnceItIsUp(t *testing.T) {
	a := agentUp(t, 5, 9, 4)
	for now := range 40 {
		wantTick(t, a, now)
	}
}

// All that a daemon's end has to say goes in its order: the Welcome, the Resets, what is due.
func TestOrderOfATick(t *testing.T) {
	d := daemonUp(t, 5, 9, 4)
	wantSend(t, d, body(1), api.OK)
	wantSend(t, d, body(2), api.OK)
	wantFrame(t, d, data(5, 9, 1, 0, body(11)), 1, api.OK, body(11))
	wantFrame(t, d, syn(3), 1, api.ErrMissing)
	wantFrame(t, d, ack(2, 9, 0), 1, api.ErrMissing)
	wantFrame(t, d, syn(5), 1, api.OK)
	wantTick(t, d, 1, welcome(5, 9), reset(3, 9), reset(2, 9), data(5, 9, 1, 1, body(1)), data(5, 9, 2, 1, body(2)))
	wantTick(t, d, 2)
	wantFrame(t, d, syn(5), 3, api.OK)
	wantFrame(t, d, data(5, 9, 1, 2, body(11)), 3, api.OK)
	wantTick(t, d, 3, welcome(5, 9), ack(5, 9, 1))
	wantTick(t, d, 4)
}

// One Ack goes for all that came since the last one; none goes where a body's frame says it.
func TestAcks(t *testing.T) {
	for _, l := range bothKinds(t, 4) {
		wantTick(t, l, 0)
		for n := 1; n <= 3; n++ {
			wantFrame(t, l, data(5, 9, n, 0, body(n)), 1, api.OK, body(n))
		}
		wantTick(t, l, 1, ack(5, 9, 3))
		wantTick(t, l, 2)
		wantFrame(t, l, data(5, 9, 4, 0, body(4)), 3, api.OK, body(4))
		wantSend(t, l, body(11), api.OK)
		wantTick(t, l, 3, data(5, 9, 1, 4, body(11)))
		wantTick(t, l, 4)
		wantFrame(t, l, data(5, 9, 5, 0, body(5)), 5, api.OK, body(5))
		wantTick(t, l, 5, ack(5, 9, 5)) // the packet is under way, but not due
		wantFrame(t, l, data(5, 9, 6, 0, body(6)), 6, api.OK, body(6))
		wantTick(t, l, 11, data(5, 9, 1, 6, body(11)))
		wantTick(t, l, 12)
	}
}

// Bodies that nobody acknowledges go again behind longer and longer waits, with what came by then as their ack; a time that goes back counts as the last one.
func TestBodiesGoAgain(t *testing.T) {
	for _, l := range bothKinds(t, 4) {
		wantSend(t, l, body(1), api.OK)
		wantTick(t, l, 10, data(5, 9, 1, 0, body(1)))
		wantTick(t, l, 17)
		wantTick(t, l, 0)
		wantFrame(t, l, data(5, 9, 1, 0, body(11)), 0, api.OK, body(11))
		wantTick(t, l, 18, data(5, 9, 1, 1, body(1)))
		wantTick(t, l, 33)
		wantTick(t, l, 34, data(5, 9, 1, 1, body(1)))
		wantTick(t, l, 65)
		wantTick(t, l, 66, data(5, 9, 1, 1, body(1)))
		wantTick(t, l, 125)
		wantTick(t, l, 126, data(5, 9, 1, 1, body(1)))
		wantSend(t, l, body(2), api.OK)
		wantTick(t, l, 5, data(5, 9, 2, 1, body(2))) // at 126
		wantTick(t, l, 133)
		wantTick(t, l, 134, data(5, 9, 2, 1, body(2)))
		wantTick(t, l, maxID, data(5, 9, 1, 1, body(1)), data(5, 9, 2, 1, body(2)))
		wantFrame(t, l, ack(5, 9, 2), 5, api.OK)
		wantTick(t, l, maxID)
	}
}

// The time at which an acknowledgement comes tells how long the answer took, and so the wait of what goes next.
func TestAnswersTellTheWait(t *testing.T) {
	for _, l := range bothKinds(t, 4) {
		wantSend(t, l, body(1), api.OK)
		wantTick(t, l, 0, data(5, 9, 1, 0, body(1)))
		wantFrame(t, l, ack(5, 9, 1), 12, api.OK) // the mean is 5, the spread 2.75
		wantSend(t, l, body(2), api.OK)
		wantTick(t, l, 12, data(5, 9, 2, 0, body(2)))
		wantTick(t, l, 27)
		wantTick(t, l, 28, data(5, 9, 2, 0, body(2)))
	}
}
