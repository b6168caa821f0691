package link_test

import (
	"testing"

	"satchel/api"
	"satchel/link"
)

// How an agent's end of session 5 may be.
var agents = []struct {
	what string
	make func(t *testing.T) *link.Link
	is   standing
}{
	{"opening", func(t *testing.T) *link.Link { return newAgent(t, 5, 4) }, standing{1, 5, 0, 0, 0}},
	{"up", func(t *testing.T) *link.Link { return agentUp(t, 5, 9, 4) }, standing{2, 5, 9, 0, 0}},
	{"shut", func(t *testing.T) *link.Link { return agentShut(t, 5, 9, 4) }, standing{3, 5, 9, 0, 0}},
}

// Each type of frame, at each state of an agent's end: what is told, and how it is then.
func TestAgentReceives(t *testing.T) {
	opening, up, shut := standing{1, 5, 0, 0, 0}, standing{2, 5, 9, 0, 0}, standing{3, 5, 9, 0, 0}
	neverUp, other := standing{3, 5, 0, 0, 0}, standing{2, 5, 8, 0, 0}
	told := standing{2, 5, 9, 0, 1}
	for _, x := range []struct {
		what string
		f    api.Frame
		errs [3]api.Errno
		then [3]standing
	}{
		{"a Syn", syn(5), [3]api.Errno{api.ErrMissing, api.ErrMissing, api.ErrState}, [3]standing{opening, up, shut}},
		{"a Syn above", syn(6), [3]api.Errno{api.ErrMissing, api.ErrMissing, api.ErrState}, [3]standing{opening, up, shut}},
		{"a Welcome", welcome(5, 9), [3]api.Errno{api.OK, api.OK, api.ErrState}, [3]standing{up, up, shut}},
		{"a Welcome of another boot", welcome(5, 8), [3]api.Errno{api.OK, api.ErrMissing, api.ErrState}, [3]standing{other, up, shut}},
		{"a Welcome of a session below", welcome(4, 9), [3]api.Errno{api.ErrMissing, api.ErrMissing, api.ErrState}, [3]standing{opening, up, shut}},
		{"a Welcome of a session above", welcome(6, 9), [3]api.Errno{api.ErrMissing, api.ErrMissing, api.ErrState}, [3]standing{opening, up, shut}},
		{"a Data", data(5, 9, 1, 0, body(1)), [3]api.Errno{api.ErrMissing, api.OK, api.ErrState}, [3]standing{opening, told, shut}},
		{"a Data of another boot", data(5, 8, 1, 0, body(1)), [3]api.Errno{api.ErrMissing, api.ErrMissing, api.ErrState}, [3]standing{opening, up, shut}},
		{"a Data of a boot above", data(5, 10, 1, 0, body(1)), [3]api.Errno{api.ErrMissing, api.ErrMissing, api.ErrState}, [3]standing{opening, up, shut}},
		{"a Data of another session", data(4, 9, 1, 0, body(1)), [3]api.Errno{api.ErrMissing, api.ErrMissing, api.ErrState}, [3]standing{opening, up, shut}},
		{"a Data of a session above", data(6, 9, 1, 0, body(1)), [3]api.Errno{api.ErrMissing, api.ErrMissing, api.ErrState}, [3]standing{opening, up, shut}},
		{"an Ack", ack(5, 9, 0), [3]api.Errno{api.ErrMissing, api.OK, api.ErrState}, [3]standing{opening, up, shut}},
		{"an Ack of too much", ack(5, 9, 1), [3]api.Errno{api.ErrMissing, api.ErrRange, api.ErrState}, [3]standing{opening, up, shut}},
		{"an Ack of another boot", ack(5, 8, 0), [3]api.Errno{api.ErrMissing, api.ErrMissing, api.ErrState}, [3]standing{opening, up, shut}},
		{"an Ack of another session", ack(6, 9, 0), [3]api.Errno{api.ErrMissing, api.ErrMissing, api.ErrState}, [3]standing{opening, up, shut}},
		{"a Reset", reset(5, 9), [3]api.Errno{api.OK, api.OK, api.ErrState}, [3]standing{neverUp, shut, shut}},
		{"a Reset without a boot", reset(5, 0), [3]api.Errno{api.OK, api.OK, api.ErrState}, [3]standing{neverUp, shut, shut}},
		{"a Reset of another boot", reset(5, maxID), [3]api.Errno{api.OK, api.OK, api.ErrState}, [3]standing{neverUp, shut, shut}},
		{"a Reset of a session below", reset(4, 9), [3]api.Errno{api.ErrMissing, api.ErrMissing, api.ErrState}, [3]standing{opening, up, shut}},
		{"a Reset of a session above", reset(6, 9), [3]api.Errno{api.ErrMissing, api.ErrMissing, api.ErrState}, [3]standing{opening, up, shut}},
	} {
		for i, a := range agents {
			l := a.make(t)
			wantIs(t, l, a.is)
			got, err := l.Receive(put(t, x.f), 3)
			if want := x.then[i].got; err != x.errs[i] || len(got) != want || standingOf(l) != x.then[i] {
				t.Errorf("%s, where it is %s: %q, %v, %+v; want %d bodies, %v, %+v", x.what, a.what, got, err, standingOf(l), want, x.errs[i], x.then[i])
			}
		}
	}
}

// Which error goes first: the time's, then that of what is shut, then the frame's, then that of another session.
func TestErrorsOfAnAgentsReceiveInOrder(t *testing.T) {
	good, other := put(t, welcome(5, 9)), put(t, welcome(4, 9))
	turned := put(t, welcome(4, 9))
	turned[7] ^= 1
	for i, a := range agents {
		for _, x := range []struct {
			b    []byte
			now  int
			want [3]api.Errno
		}{
			{good, -1, [3]api.Errno{api.ErrArg, api.ErrArg, api.ErrArg}},
			{other, maxID + 1, [3]api.Errno{api.ErrArg, api.ErrArg, api.ErrArg}},
			{turned, -1, [3]api.Errno{api.ErrArg, api.ErrArg, api.ErrArg}},
			{nil, -1, [3]api.Errno{api.ErrArg, api.ErrArg, api.ErrArg}},
			{nil, 0, [3]api.Errno{api.ErrBytes, api.ErrBytes, api.ErrState}},
			{other[:25], 0, [3]api.Errno{api.ErrBytes, api.ErrBytes, api.ErrState}},
			{make([]byte, 1427), 0, [3]api.Errno{api.ErrLong, api.ErrLong, api.ErrState}},
			{turned, 0, [3]api.Errno{api.ErrSum, api.ErrSum, api.ErrState}},
			{other, 0, [3]api.Errno{api.ErrMissing, api.ErrMissing, api.ErrState}},
			{good, maxID, [3]api.Errno{api.OK, api.OK, api.ErrState}},
		} {
			l := a.make(t)
			if got, err := l.Receive(x.b, x.now); err != x.want[i] || len(got) > 0 || err != api.OK && standingOf(l) != a.is {
				t.Errorf("%d bytes at %d, where it is %s: %q, %v, %+v; want %v", len(x.b), x.now, a.what, got, err, standingOf(l), x.want[i])
			}
		}
	}
}

// No time is a time beyond the numbers: nothing changes then, of either kind.
func TestReceiveAtNoTime(t *testing.T) {
	for kind, l := range bothKinds(t, 4) {
		wantSend(t, l, body(1), api.OK)
		was := standingOf(l)
		for _, now := range notTimes {
			for _, f := range []api.Frame{syn(6), syn(4), welcome(5, 9), reset(5, 9), data(5, 9, 1, 0, body(1)), data(5, 8, 1, 0, nil), ack(5, 9, 1), ack(5, 9, 2)} {
				wantFrame(t, l, f, now, api.ErrArg)
			}
		}
		wantIs(t, l, was)
		wantTick(t, l, 0, data(5, 9, 1, 0, body(1)))
		if t.Failed() {
			t.Fatal(kind)
		}
	}
}

// A Welcome that comes again begins nothing anew.
func TestWelcomeAgain(t *testing.T) {
	a := agentUp(t, 5, 9, 4)
	wantSend(t, a, body(1), api.OK)
	wantFrame(t, a, data(5, 9, 1, 0, body(11)), 1, api.OK, body(11))
	wantFrame(t, a, data(5, 9, 3, 0, body(13)), 1, api.OK)
	is := standing{2, 5, 9, 1, 1}
	for _, x := range []struct {
		boot int
		want api.Errno
	}{{9, api.OK}, {8, api.ErrMissing}, {10, api.ErrMissing}, {maxID, api.ErrMissing}, {9, api.OK}} {
		wantFrame(t, a, welcome(5, x.boot), 2, x.want)
		wantIs(t, a, is)
	}
	wantTick(t, a, 2, data(5, 9, 1, 1, body(1)))
	wantFrame(t, a, data(5, 9, 2, 1, body(12)), 3, api.OK, body(12), body(13))
	wantIs(t, a, standing{2, 5, 9, 0, 3})
}

// A Welcome alone makes no acknowledgement owed.
func TestWelcomeOwesNothing(t *testing.T) {
	a := agentUp(t, 5, 9, 4)
	wantTick(t, a, 0)
	wantFrame(t, a, welcome(5, 9), 1, api.OK)
	wantTick(t, a, 1)
}

// What is shut is shut for good, and nothing is under way in it any more.
func TestShut(t *testing.T) {
	a := agentUp(t, 5, 9, 4)
	wantSend(t, a, body(1), api.OK)
	wantSend(t, a, body(2), api.OK)
	wantFrame(t, a, data(5, 9, 1, 0, body(11)), 1, api.OK, body(11))
	wantIs(t, a, standing{2, 5, 9, 2, 1})
	wantFrame(t, a, reset(5, 10), 1, api.OK)
	for now := range 200 {
		wantIs(t, a, standing{3, 5, 9, 0, 0})
		wantTick(t, a, now)
		wantSend(t, a, body(3), api.ErrState)
		wantFrame(t, a, welcome(5, 9), now, api.ErrState)
		wantFrame(t, a, data(5, 9, 2, 0, body(12)), now, api.ErrState)
		wantFrame(t, a, reset(5, 9), now, api.ErrState)
	}
	b := newAgent(t, 5, 4)
	wantFrame(t, b, reset(5, 9), 0, api.OK)
	for now := range 200 {
		wantIs(t, b, standing{3, 5, 0, 0, 0})
		wantTick(t, b, now)
	}
}
