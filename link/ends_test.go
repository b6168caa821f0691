package link_test

import (
	"math"
	"testing"

	"satchel/api"
	"satchel/link"
)

// The examples of the chapter, one behind the other.
func TestExamples(t *testing.T) {
	a, d := newAgent(t, 5, 4), newDaemon(t, 9, 4)
	x := []byte("x")
	wantIs(t, a, standing{1, 5, 0, 0, 0})
	wantIs(t, d, standing{3, 0, 9, 0, 0})
	wantSend(t, a, x, api.ErrState)
	wantTick(t, a, 0, syn(5))
	wantTick(t, a, 7)
	wantTick(t, a, 8, syn(5))

	wantFrame(t, d, syn(5), 1, api.OK)
	wantIs(t, d, standing{2, 5, 9, 0, 0})
	wantTick(t, d, 1, welcome(5, 9))
	wantFrame(t, a, welcome(5, 9), 2, api.OK)
	wantIs(t, a, standing{2, 5, 9, 0, 0})

	wantSend(t, a, x, api.OK)
	wantTick(t, a, 3, data(5, 9, 1, 0, x))
	wantFrame(t, d, data(5, 9, 1, 0, x), 4, api.OK, x)
	wantFrame(t, d, data(5, 9, 1, 0, x), 5, api.OK)
	wantTick(t, d, 5, ack(5, 9, 1))
	wantFrame(t, a, ack(5, 9, 1), 6, api.OK)
	wantIs(t, a, standing{2, 5, 9, 0, 0})
	wantIs(t, d, standing{2, 5, 9, 0, 1})

	wantFrame(t, d, syn(4), 7, api.ErrMissing)
	wantTick(t, d, 7, reset(4, 9))
	wantFrame(t, a, reset(5, 9), 8, api.OK)
	wantIs(t, a, standing{3, 5, 9, 0, 0})
}

func TestEndsAtTheirEdges(t *testing.T) {
	for _, n := range []int{1, 2, 5, 1 << 16, maxID - 1, maxID} {
		for _, size := range []int{1, 2, 63, 64} {
			wantIs(t, newAgent(t, n, size), standing{api.LinkOpening, n, 0, 0, 0})
			wantIs(t, newDaemon(t, n, size), standing{api.LinkShut, 0, n, 0, 0})
			agentUp(t, n, maxID, size)
			agentUp(t, n, 1, size)
			daemonUp(t, maxID, n, size)
			daemonUp(t, 1, n, size)
		}
	}
}

func TestNoEnds(t *testing.T) {
	no := func(n, size int) {
		t.Helper()
		if l, err := link.Agent(n, size); l != nil || err != api.ErrArg {
			t.Errorf("Agent(%d, %d): %v, %v", n, size, l, err)
		}
		if l, err := link.Daemon(n, size); l != nil || err != api.ErrArg {
			t.Errorf("Daemon(%d, %d): %v, %v", n, size, l, err)
		}
	}
	for _, n := range notNumbers {
		no(n, 4)
		no(n, 1)
		no(n, 65)
		no(n, 0)
	}
	for _, size := range notSizes {
		no(1, size)
		no(5, size)
		no(maxID, size)
	}
}

// wantNone says that a link is none.
func wantNone(t *testing.T, what string, l *link.Link) {
	t.Helper()
	for _, b := range [][]byte{nil, {1}, make([]byte, 1401), make([]byte, 2000), put(t, welcome(5, 9)), put(t, syn(5)), put(t, data(5, 9, 1, 0, nil))} {
		for _, now := range append(notTimes, 0, 1, maxID) {
			if got, err := l.Receive(b, now); len(got) > 0 || err != api.ErrNil {
				t.Errorf("%s: Receive(%d bytes, %d): %v, %v", what, len(b), now, got, err)
			}
			if got := l.Tick(now); len(got) > 0 {
				t.Errorf("%s: Tick(%d): %v", what, now, got)
			}
		}
		if err := l.Send(b); err != api.ErrNil {
			t.Errorf("%s: Send(%d bytes): %v", what, len(b), err)
		}
	}
	if s := standingOf(l); s != (standing{}) {
		t.Errorf("%s: %+v", what, s)
	}
}

func TestLinksThatAreNone(t *testing.T) {
	wantNone(t, "nil", nil)
	wantNone(t, "a zero one", &link.Link{})
	wantNone(t, "a new one", new(link.Link))
	for kind, l := range bothKinds(t, 4) {
		wantSend(t, l, body(1), api.OK)
		was := standingOf(l)
		again := *l
		wantNone(t, "a copy of a "+kind+"'s", &again)
		wantIs(t, l, was)
	}
	_, err := link.Agent(0, 4)
	none, _ := link.Agent(math.MinInt, 4)
	wantNone(t, "what an error came with", none)
	if err != api.ErrArg {
		t.Error(err)
	}
}

// What is wrong with a body, in the order in which it is told: not up, too long, no room.
func TestSend(t *testing.T) {
	long, longest := make([]byte, 1401), make([]byte, 1400)
	for what, l := range map[string]*link.Link{
		"opening": newAgent(t, 5, 1), "a daemon's": newDaemon(t, 9, 1), "shut": agentShut(t, 5, 9, 1),
	} {
		for _, b := range [][]byte{nil, {1}, longest, long} {
			if err := l.Send(b); err != api.ErrState {
				t.Errorf("%s: %d bytes: %v", what, len(b), err)
			}
		}
	}
	for kind, l := range bothKinds(t, 1) {
		wantSend(t, l, long, api.ErrLong)
		wantSend(t, l, make([]byte, 1<<16), api.ErrLong)
		wantIs(t, l, standing{api.LinkUp, 5, 9, 0, 0})
		wantSend(t, l, longest, api.OK)
		wantIs(t, l, standing{api.LinkUp, 5, 9, 1, 0})
		wantSend(t, l, long, api.ErrLong)
		wantSend(t, l, longest, api.ErrFull)
		wantSend(t, l, nil, api.ErrFull)
		wantTick(t, l, 4, data(5, 9, 1, 0, longest))
		wantFrame(t, l, ack(5, 9, 1), 5, api.OK)
		wantSend(t, l, nil, api.OK)
		wantTick(t, l, 6, data(5, 9, 2, 0, nil))
		wantIs(t, l, standing{api.LinkUp, 5, 9, 1, 0})
		if t.Failed() {
			t.Fatal(kind)
		}
	}
}

// As many bodies go at once as the size says; there is room again as they are acknowledged.
func TestSendTillTheWindowIsFull(t *testing.T) {
	for _, size := range []int{1, 2, 3, 63, 64} {
		for _, l := range bothKinds(t, size) {
			var want []api.Frame
			for n := 1; n <= size; n++ {
				wantSend(t, l, body(n), api.OK)
				wantIs(t, l, standing{api.LinkUp, 5, 9, n, 0})
				want = append(want, data(5, 9, n, 0, body(n)))
			}
			wantSend(t, l, body(0), api.ErrFull)
			wantTick(t, l, 1, want...)
			wantSend(t, l, body(0), api.ErrFull)
			for n := 1; n <= size; n++ {
				wantFrame(t, l, ack(5, 9, n), 2, api.OK)
				wantIs(t, l, standing{api.LinkUp, 5, 9, size - 1, 0})
				wantSend(t, l, body(size+n), api.OK)
				wantSend(t, l, body(0), api.ErrFull)
			}
			wantFrame(t, l, ack(5, 9, 2*size), 3, api.OK)
			wantIs(t, l, standing{api.LinkUp, 5, 9, 0, 0})
		}
	}
}
