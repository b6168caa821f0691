package link_test

import (
	"testing"

	"satchel/api"
	"satchel/link"
)

// Each type of frame, to a daemon's end that is shut and to one that is up: what is told, how it is then, and what it sends.
func TestDaemonReceives(t *testing.T) {
	shut, up := standing{3, 0, 9, 0, 0}, standing{2, 5, 9, 0, 0}
	for _, x := range []struct {
		what string
		f    api.Frame
		errs [2]api.Errno
		then [2]standing
		goes [2][]api.Frame
	}{
		{"a Syn", syn(5), [2]api.Errno{}, [2]standing{up, up}, [2][]api.Frame{{welcome(5, 9)}, {welcome(5, 9)}}},
		{"a Syn below", syn(4), [2]api.Errno{api.OK, api.ErrMissing}, [2]standing{{2, 4, 9, 0, 0}, up}, [2][]api.Frame{{welcome(4, 9)}, {reset(4, 9)}}},
		{"the least Syn", syn(1), [2]api.Errno{api.OK, api.ErrMissing}, [2]standing{{2, 1, 9, 0, 0}, up}, [2][]api.Frame{{welcome(1, 9)}, {reset(1, 9)}}},
		{"a Syn above", syn(6), [2]api.Errno{}, [2]standing{{2, 6, 9, 0, 0}, {2, 6, 9, 0, 0}}, [2][]api.Frame{{welcome(6, 9)}, {welcome(6, 9)}}},
		{"the last Syn", syn(maxID), [2]api.Errno{}, [2]standing{{2, maxID, 9, 0, 0}, {2, maxID, 9, 0, 0}}, [2][]api.Frame{{welcome(maxID, 9)}, {welcome(maxID, 9)}}},
		{"a Welcome", welcome(5, 9), [2]api.Errno{api.ErrMissing, api.ErrMissing}, [2]standing{shut, up}, [2][]api.Frame{}},
		{"a Reset", reset(5, 9), [2]api.Errno{api.ErrMissing, api.ErrMissing}, [2]standing{shut, up}, [2][]api.Frame{}},
		{"a Reset of another session", reset(4, 9), [2]api.Errno{api.ErrMissing, api.ErrMissing}, [2]standing{shut, up}, [2][]api.Frame{}},
		{"a Data", data(5, 9, 1, 0, body(1)), [2]api.Errno{api.ErrMissing, api.OK}, [2]standing{shut, {2, 5, 9, 0, 1}}, [2][]api.Frame{{reset(5, 9)}, {ack(5, 9, 1)}}},
		{"a Data of an elder boot", data(5, 8, 1, 0, body(1)), [2]api.Errno{api.ErrMissing, api.ErrMissing}, [2]standing{shut, up}, [2][]api.Frame{{reset(5, 9)}, {reset(5, 9)}}},
		{"a Data of a later boot", data(5, 10, 1, 0, body(1)), [2]api.Errno{api.ErrMissing, api.ErrMissing}, [2]standing{shut, up}, [2][]api.Frame{{reset(5, 9)}, {reset(5, 9)}}},
		{"a Data of an elder session", data(4, 9, 1, 0, body(1)), [2]api.Errno{api.ErrMissing, api.ErrMissing}, [2]standing{shut, up}, [2][]api.Frame{{reset(4, 9)}, {reset(4, 9)}}},
		{"a Data of a later session", data(6, 9, 1, 0, body(1)), [2]api.Errno{api.ErrMissing, api.ErrMissing}, [2]standing{shut, up}, [2][]api.Frame{{reset(6, 9)}, {reset(6, 9)}}},
		{"a Data that says too much", data(5, 9, 1, 1, body(1)), [2]api.Errno{api.ErrMissing, api.ErrRange}, [2]standing{shut, up}, [2][]api.Frame{{reset(5, 9)}, {}}},
		{"an Ack", ack(5, 9, 0), [2]api.Errno{api.ErrMissing, api.OK}, [2]standing{shut, up}, [2][]api.Frame{{reset(5, 9)}, {}}},
		{"an Ack of too much", ack(5, 9, 1), [2]api.Errno{api.ErrMissing, api.ErrRange}, [2]standing{shut, up}, [2][]api.Frame{{reset(5, 9)}, {}}},
		{"an Ack of an elder boot", ack(5, 8, 0), [2]api.Errno{api.ErrMissing, api.ErrMissing}, [2]standing{shut, up}, [2][]api.Frame{{reset(5, 9)}, {reset(5, 9)}}},
		{"an Ack of an elder session", ack(4, 9, 0), [2]api.Errno{api.ErrMissing, api.ErrMissing}, [2]standing{shut, up}, [2][]api.Frame{{reset(4, 9)}, {reset(4, 9)}}},
	} {
		for i, l := range []*link.Link{newDaemon(t, 9, 4), daemonUp(t, 5, 9, 4)} {
			got, err := l.Receive(put(t, x.f), 3)
			if err != x.errs[i] || len(got) != x.then[i].got || standingOf(l) != x.then[i] {
				t.Errorf("%s: %q, %v, %+v; want %v, %+v", x.what, got, err, standingOf(l), x.errs[i], x.then[i])
			}
			wantTick(t, l, 4, x.goes[i]...)
			wantTick(t, l, 5)
			wantIs(t, l, x.then[i])
			if t.Failed() {
				t.Fatal(x.what, i)
			}
		}
	}
}

// Which error goes first: the time's, then the frame's.
func TestErrorsOfADaemonsReceiveInOrder(t *testing.T) {
	good := put(t, syn(6))
	turned := put(t, syn(6))
	turned[7] ^= 1
	for _, x := range []struct {
		b    []byte
		now  int
		want api.Errno
	}{
		{good, -1, api.ErrArg},
		{turned, maxID + 1, api.ErrArg},
		{nil, -1, api.ErrArg},
		{nil, 0, api.ErrBytes},
		{good[:25], 0, api.ErrBytes},
		{make([]byte, 1427), 0, api.ErrLong},
		{turned, 0, api.ErrSum},
	} {
		for _, l := range []*link.Link{newDaemon(t, 9, 4), daemonUp(t, 5, 9, 4)} {
			was := standingOf(l)
			wantBytes(t, l, x.b, x.now, x.want)
			wantIs(t, l, was)
			wantTick(t, l, 0)
		}
	}
	wantBytes(t, newDaemon(t, 9, 4), good, 0, api.OK)
	wantBytes(t, newDaemon(t, 9, 4), good, maxID, api.OK)
}

// A Syn that comes twice begins nothing anew; one Welcome goes for all that came since the last one.
func TestSynAgain(t *testing.T) {
	d := daemonUp(t, 5, 9, 4)
	wantSend(t, d, body(1), api.OK)
	wantTick(t, d, 1, data(5, 9, 1, 0, body(1)))
	wantFrame(t, d, data(5, 9, 1, 0, body(11)), 2, api.OK, body(11))
	wantFrame(t, d, data(5, 9, 3, 0, body(13)), 2, api.OK)
	for range 3 {
		wantFrame(t, d, syn(5), 3, api.OK)
		wantIs(t, d, standing{2, 5, 9, 1, 1})
	}
	wantTick(t, d, 3, welcome(5, 9), ack(5, 9, 1))
	wantTick(t, d, 4)
	wantFrame(t, d, data(5, 9, 2, 1, body(12)), 5, api.OK, body(12), body(13))
	wantIs(t, d, standing{2, 5, 9, 0, 3})
}

// A Syn above begins a session: nothing is under way in it, nothing came, nothing is owed of the elder one.
func TestSynAbove(t *testing.T) {
	d := daemonUp(t, 5, 9, 4)
	wantSend(t, d, body(1), api.OK)
	wantSend(t, d, body(2), api.OK)
	wantFrame(t, d, data(5, 9, 1, 0, body(11)), 2, api.OK, body(11))
	wantFrame(t, d, data(5, 9, 3, 0, body(13)), 2, api.OK)
	wantFrame(t, d, syn(5), 2, api.OK)
	wantIs(t, d, standing{2, 5, 9, 2, 1})
	wantFrame(t, d, syn(7), 3, api.OK)
	wantIs(t, d, standing{2, 7, 9, 0, 0})
	wantTick(t, d, 3, welcome(7, 9))
	wantFrame(t, d, ack(7, 9, 1), 4, api.ErrRange)
	wantFrame(t, d, data(7, 9, 2, 0, body(22)), 4, api.OK)
	wantFrame(t, d, data(7, 9, 1, 0, body(21)), 4, api.OK, body(21), body(22))
	wantFrame(t, d, data(5, 9, 2, 0, body(12)), 4, api.ErrMissing)
	wantSend(t, d, body(31), api.OK)
	wantTick(t, d, 4, reset(5, 9), data(7, 9, 1, 2, body(31)))
	wantIs(t, d, standing{2, 7, 9, 1, 2})
}

// A session's window has its times from its own beginning on, not from the elder one's.
func TestTimesBeginAnewWithASession(t *testing.T) {
	d := daemonUp(t, 5, 9, 4)
	wantSend(t, d, body(1), api.OK)
	wantTick(t, d, 1000, data(5, 9, 1, 0, body(1)))
	wantFrame(t, d, ack(5, 9, 1), 1040, api.OK)
	wantFrame(t, d, syn(6), 1040, api.OK)
	wantTick(t, d, 0, welcome(6, 9))
	wantSend(t, d, body(2), api.OK)
	wantTick(t, d, 10, data(6, 9, 1, 0, body(2)))
	wantTick(t, d, 17)
	wantTick(t, d, 18, data(6, 9, 1, 0, body(2)))
}

// Resets of at most eight sessions are owed, each once, in the order in which they came to be.
func TestResets(t *testing.T) {
	d := daemonUp(t, 5, 9, 4)
	sessions := []int{30, 4, 20, 2, maxID, 3, 7, 8}
	var want []api.Frame
	for i, s := range sessions {
		f := []api.Frame{data(s, 9, 1, 0, body(1)), ack(s, 9, 0), data(s, 8, 1, 5, nil)}[i%3]
		if s < 5 {
			f = syn(s)
		}
		wantFrame(t, d, f, 1, api.ErrMissing)
		wantFrame(t, d, f, 1, api.ErrMissing)
		want = append(want, reset(s, 9))
	}
	wantFrame(t, d, ack(40, 9, 0), 1, api.ErrMissing)
	wantFrame(t, d, syn(1), 1, api.ErrMissing)
	wantFrame(t, d, ack(20, 9, 0), 1, api.ErrMissing)
	wantTick(t, d, 1, want...)
	wantTick(t, d, 2)
	wantFrame(t, d, ack(40, 9, 0), 3, api.ErrMissing)
	wantFrame(t, d, ack(30, 9, 0), 3, api.ErrMissing)
	wantTick(t, d, 3, reset(40, 9), reset(30, 9))
	wantIs(t, d, standing{2, 5, 9, 0, 0})
}

// Each number of Resets up to eight goes, and never more.
func TestHowManyResets(t *testing.T) {
	for n := range 12 {
		for _, d := range []*link.Link{newDaemon(t, 9, 4), daemonUp(t, 5, 9, 4)} {
			var want []api.Frame
			for i := range n {
				wantFrame(t, d, data(100-i, 9, 1, 0, nil), 1, api.ErrMissing)
				if i < 8 {
					want = append(want, reset(100-i, 9))
				}
			}
			wantTick(t, d, 1, want...)
			wantTick(t, d, 1)
		}
	}
}

// What is owed stays so till it goes: also over a Syn that begins a session, and over a time that is none.
func TestResetsStayOwed(t *testing.T) {
	d := newDaemon(t, 9, 4)
	wantFrame(t, d, data(7, 8, 1, 0, nil), 1, api.ErrMissing)
	wantFrame(t, d, syn(6), 1, api.OK)
	wantFrame(t, d, syn(7), 1, api.OK)
	wantFrame(t, d, syn(6), 1, api.ErrMissing)
	for _, now := range notTimes {
		wantTick(t, d, now)
	}
	wantTick(t, d, 1, welcome(7, 9), reset(7, 9), reset(6, 9))
	wantTick(t, d, 1)
	wantIs(t, d, standing{2, 7, 9, 0, 0})
}
