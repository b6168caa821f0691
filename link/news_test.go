package link_test

import (
	"testing"

	"satchel/api"
)

// Bodies of all lengths at their edges go over, there and back.
func TestBodiesAtTheirEdges(t *testing.T) {
	for _, n := range []int{0, 1, 2, 25, 26, 27, 1000, 1399, 1400} {
		a, d := agentUp(t, 5, 9, 4), daemonUp(t, 5, 9, 4)
		there, back := make([]byte, n), make([]byte, n)
		for i := range n {
			there[i], back[i] = byte(i), byte(3*i+1)
		}
		wantSend(t, a, there, api.OK)
		wantSend(t, d, back, api.OK)
		fa, fd := a.Tick(0), d.Tick(0)
		if len(fa) != 1 || len(fd) != 1 {
			t.Fatal(n, len(fa), len(fd))
		}
		wantBytes(t, d, fa[0], 1, api.OK, there)
		wantBytes(t, a, fd[0], 1, api.OK, back)
	}
}

// What comes ahead of its turn waits; what came already, and what is too far ahead, is told not at all. An acknowledgement is owed of each.
func TestNewsOfData(t *testing.T) {
	for kind, l := range bothKinds(t, 4) {
		now := 0
		for _, x := range []struct {
			seq  int
			told []int
			got  int
		}{
			{2, nil, 0},
			{2, nil, 0},
			{4, nil, 0},
			{5, nil, 0}, // too far ahead: it is not held
			{maxID, nil, 0},
			{maxID - 1, nil, 0},
			{1, []int{1, 2}, 2},
			{1, nil, 2},
			{2, nil, 2},
			{3, []int{3, 4}, 4},
			{5, []int{5}, 5},
			{9, nil, 5},
			{10, nil, 5},
			{6, []int{6}, 6},
		} {
			now++
			var told [][]byte
			for _, n := range x.told {
				told = append(told, body(n))
			}
			wantFrame(t, l, data(5, 9, x.seq, 0, body(x.seq)), now, api.OK, told...)
			wantIs(t, l, standing{2, 5, 9, 0, x.got})
			wantTick(t, l, now, ack(5, 9, x.got))
			wantTick(t, l, now)
			if t.Failed() {
				t.Fatal(kind, x)
			}
		}
	}
}

// The first body of a number that came counts.
func TestFirstBodyCounts(t *testing.T) {
	for _, l := range bothKinds(t, 4) {
		wantFrame(t, l, data(5, 9, 2, 0, body(2)), 1, api.OK)
		wantFrame(t, l, data(5, 9, 2, 0, body(3)), 1, api.OK)
		wantFrame(t, l, data(5, 9, 1, 0, body(1)), 1, api.OK, body(1), body(2))
		wantFrame(t, l, data(5, 9, 1, 0, body(4)), 1, api.OK)
	}
}

// What a frame acknowledges goes, be it a Data or an Ack, be it elder than another one; an Ack owes nothing.
func TestNewsOfAck(t *testing.T) {
	for _, l := range bothKinds(t, 4) {
		for n := 1; n <= 4; n++ {
			wantSend(t, l, body(n), api.OK)
		}
		l.Tick(0)
		for _, x := range []struct {
			f    api.Frame
			open int
		}{
			{ack(5, 9, 0), 4},
			{ack(5, 9, 1), 3},
			{ack(5, 9, 0), 3},
			{ack(5, 9, 3), 1},
			{ack(5, 9, 2), 1},
			{ack(5, 9, 4), 0},
			{ack(5, 9, 4), 0},
		} {
			wantFrame(t, l, x.f, 1, api.OK)
			wantIs(t, l, standing{2, 5, 9, x.open, 0})
			wantTick(t, l, 1)
		}
		wantSend(t, l, body(5), api.OK)
		wantSend(t, l, body(6), api.OK)
		wantFrame(t, l, data(5, 9, 1, 5, body(11)), 2, api.OK, body(11))
		wantIs(t, l, standing{2, 5, 9, 1, 1})
		wantFrame(t, l, data(5, 9, 1, 6, body(11)), 2, api.OK)
		wantIs(t, l, standing{2, 5, 9, 0, 1})
	}
}

// What acknowledges more than was sent changes nothing: its body is not taken, no acknowledgement is owed, no time passes.
func TestNewsOfTooMuch(t *testing.T) {
	for _, l := range bothKinds(t, 4) {
		wantSend(t, l, body(1), api.OK)
		for _, n := range []int{2, 3, 64, maxID} {
			wantFrame(t, l, data(5, 9, 1, n, body(7)), 500, api.ErrRange)
			wantFrame(t, l, data(5, 9, 2, n, body(7)), 500, api.ErrRange)
			wantFrame(t, l, ack(5, 9, n), 500, api.ErrRange)
		}
		wantIs(t, l, standing{2, 5, 9, 1, 0})
		wantTick(t, l, 0, data(5, 9, 1, 0, body(1)))
		wantTick(t, l, 1)
		wantTick(t, l, 8, data(5, 9, 1, 0, body(1)))
		wantFrame(t, l, ack(5, 9, 1), 9, api.OK)
		wantTick(t, l, 9)
		wantFrame(t, l, data(5, 9, 2, 1, body(2)), 9, api.OK)
		wantFrame(t, l, data(5, 9, 1, 1, body(3)), 9, api.OK, body(3), body(2))
	}
}

// Bytes that are no frame change nothing: cut anywhere, a bit turned anywhere, more behind them.
func TestFramesThatAreCutOrTurned(t *testing.T) {
	b := put(t, data(5, 9, 1, 0, body(1)))
	for kind, l := range bothKinds(t, 4) {
		for n := range b {
			want := api.ErrSum
			if n < 26 {
				want = api.ErrBytes
			}
			wantBytes(t, l, b[:n], 1, want)
		}
		for bit := range 8 * len(b) {
			b[bit/8] ^= 1 << (bit % 8)
			wantBytes(t, l, b, 1, api.ErrSum)
			b[bit/8] ^= 1 << (bit % 8)
		}
		wantBytes(t, l, append(roomy(b), 0), 1, api.ErrSum)
		wantBytes(t, l, append(roomy(b), make([]byte, 1500)...), 1, api.ErrLong)
		wantIs(t, l, standing{2, 5, 9, 0, 0})
		wantTick(t, l, 1)
		wantBytes(t, l, b, 1, api.OK, body(1))
		wantTick(t, l, 1, ack(5, 9, 1))
		if t.Failed() {
			t.Fatal(kind)
		}
	}
}

// Frames of another session, or of another boot, tell nothing, take nothing, and acknowledge nothing.
func TestFramesOfOthers(t *testing.T) {
	for kind, l := range bothKinds(t, 4) {
		wantSend(t, l, body(1), api.OK)
		wantTick(t, l, 0, data(5, 9, 1, 0, body(1)))
		for _, s := range []int{1, 4, 5, 6, maxID} {
			for _, boot := range []int{1, 8, 9, 10, maxID} {
				if s == 5 && boot == 9 {
					continue
				}
				wantFrame(t, l, data(s, boot, 1, 1, body(7)), 1, api.ErrMissing)
				wantFrame(t, l, data(s, boot, 2, 0, body(8)), 1, api.ErrMissing)
				wantFrame(t, l, ack(s, boot, 1), 1, api.ErrMissing)
				wantFrame(t, l, ack(s, boot, 2), 1, api.ErrMissing)
			}
		}
		wantIs(t, l, standing{2, 5, 9, 1, 0})
		var want []api.Frame
		if kind == "daemon" {
			want = []api.Frame{reset(1, 9), reset(4, 9), reset(5, 9), reset(6, 9), reset(maxID, 9)}
		}
		wantTick(t, l, 1, want...)
		wantFrame(t, l, data(5, 9, 1, 1, body(11)), 2, api.OK, body(11))
		wantIs(t, l, standing{2, 5, 9, 0, 1})
	}
}
