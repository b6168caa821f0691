package link_test

import (
	"bytes"
	"math"
	"slices"
	"strconv"
	"testing"

	"satchel/api"
	"satchel/frame"
	"satchel/link"
)

const maxID = 2147483647

// notNumbers are numbers that no session and no boot has, those among them that would be such if they were cut short.
var notNumbers = []int{math.MinInt, -1 << 32, 1 - 1<<32, -1 << 31, -9, -5, -1, 0, 1 << 31, 1<<31 + 1, 1<<32 - 1, 1 << 32, 1<<32 + 1, 1<<32 + 5, math.MaxInt}

// notSizes are numbers that no window has as its size.
var notSizes = []int{math.MinInt, -1 << 32, -1 << 31, -256, -64, -4, -1, 0, 65, 66, 128, 256, 257, 1 << 31, 1 << 32, 1<<32 + 4, math.MaxInt}

// notTimes are numbers that are no times.
var notTimes = []int{math.MinInt, 1 - 1<<32, -1 << 31, -2, -1, 1 << 31, 1<<31 + 1, 1 << 32, 1<<32 + 9, math.MaxInt}

// body tells a number's bytes, which tell it from others.
func body(n int) []byte { return []byte("the body of " + strconv.Itoa(n)) }

// Frames, by their types.

func syn(session int) api.Frame { return api.Frame{Type: 1, Session: session} }

func welcome(session, boot int) api.Frame { return api.Frame{Type: 2, Session: session, Boot: boot} }

func data(session, boot, seq, ack int, b []byte) api.Frame {
	return api.Frame{Type: 3, Session: session, Boot: boot, Seq: seq, Ack: ack, Body: b}
}

func ack(session, boot, n int) api.Frame {
	return api.Frame{Type: 4, Session: session, Boot: boot, Ack: n}
}

func reset(session, boot int) api.Frame { return api.Frame{Type: 5, Session: session, Boot: boot} }

// put tells a frame's bytes.
func put(t *testing.T, f api.Frame) []byte {
	t.Helper()
	b, err := frame.Put(f)
	if err != api.OK {
		t.Fatalf("%v: %v", f, err)
	}
	return b
}

// same tells whether two frames are.
func same(a, b api.Frame) bool {
	return a.Type == b.Type && a.Session == b.Session && a.Boot == b.Boot && a.Seq == b.Seq && a.Ack == b.Ack && bytes.Equal(a.Body, b.Body)
}

// read tells the frames of a tick.
func read(t *testing.T, l [][]byte) []api.Frame {
	t.Helper()
	var fs []api.Frame
	for _, b := range l {
		f, err := frame.Read(b)
		if err != api.OK {
			t.Fatalf("%v: %v", b, err)
		}
		fs = append(fs, f)
	}
	return fs
}

// wantTick says which frames go at a time.
func wantTick(t *testing.T, l *link.Link, now int, want ...api.Frame) {
	t.Helper()
	if got := read(t, l.Tick(now)); !slices.EqualFunc(got, want, same) {
		t.Errorf("Tick(%d): %v; want %v", now, got, want)
	}
}

// wantBytes says what is told of bytes that come at a time.
func wantBytes(t *testing.T, l *link.Link, b []byte, now int, want api.Errno, told ...[]byte) {
	t.Helper()
	if got, err := l.Receive(b, now); err != want || !slices.EqualFunc(got, told, bytes.Equal) {
		t.Errorf("Receive(%d bytes, %d): %q, %v; want %q, %v", len(b), now, got, err, told, want)
	}
}

// wantFrame says what is told of a frame that comes at a time.
func wantFrame(t *testing.T, l *link.Link, f api.Frame, now int, want api.Errno, told ...[]byte) {
	t.Helper()
	if got, err := l.Receive(put(t, f), now); err != want || !slices.EqualFunc(got, told, bytes.Equal) {
		t.Errorf("Receive(%v, %d): %q, %v; want %q, %v", f, now, got, err, told, want)
	}
}

// wantSend says what is told of a body that is to go.
func wantSend(t *testing.T, l *link.Link, b []byte, want api.Errno) {
	t.Helper()
	if err := l.Send(b); err != want {
		t.Errorf("Send(%d bytes): %v; want %v", len(b), err, want)
	}
}

// standing is what an end tells of itself.
type standing struct{ state, session, boot, open, got int }

func standingOf(l *link.Link) standing {
	return standing{l.State(), l.Session(), l.Boot(), l.Open(), l.Got()}
}

// wantIs says what an end tells of itself.
func wantIs(t *testing.T, l *link.Link, want standing) {
	t.Helper()
	if got := standingOf(l); got != want {
		t.Errorf("it is %+v; want %+v", got, want)
	}
}

// newAgent tells an agent's end.
func newAgent(t *testing.T, session, size int) *link.Link {
	t.Helper()
	l, err := link.Agent(session, size)
	if err != api.OK || l == nil {
		t.Fatalf("Agent(%d, %d): %v, %v", session, size, l, err)
	}
	return l
}

// newDaemon tells a daemon's end.
func newDaemon(t *testing.T, boot, size int) *link.Link {
	t.Helper()
	l, err := link.Daemon(boot, size)
	if err != api.OK || l == nil {
		t.Fatalf("Daemon(%d, %d): %v, %v", boot, size, l, err)
	}
	return l
}

// agentUp tells an agent's end that is up.
func agentUp(t *testing.T, session, boot, size int) *link.Link {
	t.Helper()
	l := newAgent(t, session, size)
	wantFrame(t, l, welcome(session, boot), 0, api.OK)
	wantIs(t, l, standing{api.LinkUp, session, boot, 0, 0})
	return l
}

// daemonUp tells a daemon's end that is up, and owes nothing.
func daemonUp(t *testing.T, session, boot, size int) *link.Link {
	t.Helper()
	l := newDaemon(t, boot, size)
	wantFrame(t, l, syn(session), 0, api.OK)
	wantTick(t, l, 0, welcome(session, boot))
	wantIs(t, l, standing{api.LinkUp, session, boot, 0, 0})
	return l
}

// agentShut tells an agent's end that was up, and is shut.
func agentShut(t *testing.T, session, boot, size int) *link.Link {
	t.Helper()
	l := agentUp(t, session, boot, size)
	wantFrame(t, l, reset(session, boot), 0, api.OK)
	return l
}

// bothKinds tells an end of each kind, both of them up, of session 5 and boot 9.
func bothKinds(t *testing.T, size int) map[string]*link.Link {
	t.Helper()
	return map[string]*link.Link{"agent": agentUp(t, 5, 9, size), "daemon": daemonUp(t, 5, 9, size)}
}

// spoil writes over bytes and over all their spare room.
func spoil(b []byte) {
	all := b[:cap(b)]
	for i := range all {
		all[i] ^= 85
	}
}

// roomy tells the same bytes with spare room behind them, which holds others.
func roomy(b []byte) []byte {
	all := append(bytes.Clone(b), 90, 91, 92, 93, 94, 95, 96, 97)
	return all[:len(b)]
}
