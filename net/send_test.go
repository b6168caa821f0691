package net_test

import (
	"bytes"
	"slices"
	"testing"

	"satchel/api"
	"satchel/net"
)

func TestExamples(t *testing.T) {
	n := netOf(t, one(0, 1, 5), one(0, 2, 6))
	if at := n.First(2); at != 1 {
		t.Errorf("the first one to 2 at %d", at)
	}
	wantErr(t, "Copy(0)", n.Copy(0), api.OK)
	wantErr(t, "Turn(0, 1)", n.Turn(0, 1), api.OK)
	wantTake(t, n, 0, one(0, 1, 7))

	wantHas(t, "one taken", n, []api.Datagram{one(0, 2, 6), one(0, 1, 5)}, 0)
	wantErr(t, "Drop(0)", n.Drop(0), api.OK)
	wantHas(t, "one dropped", n, []api.Datagram{one(0, 1, 5)}, 1)
	wantNoTake(t, n, 9, api.ErrMissing)

	wantErr(t, "Cut(1, 0, yes)", n.Cut(1, 0, true), api.OK)
	wantErr(t, "Send(0 to 1: 8)", n.Send(one(0, 1, 8)), api.OK)
	wantHas(t, "one lost over a cut link", n, []api.Datagram{one(0, 1, 5)}, 2)
	wantErr(t, "Cut(0, 64, yes)", n.Cut(0, 64, true), api.ErrArg)
	wantErr(t, "Turn(0, 8)", n.Turn(0, 8), api.ErrRange)
	wantErr(t, "Send(64 to 0)", n.Send(one(64, 0)), api.ErrArg)
	wantHas(t, "all told", n, []api.Datagram{one(0, 1, 5)}, 2)
}

func TestNewHasNone(t *testing.T) {
	n := net.New()
	wantHas(t, "new", n, nil, 0)
	wantNoTake(t, n, 0, api.ErrMissing)
	wantErr(t, "Send", n.Send(one(0, 1, 2)), api.OK)
	wantHas(t, "another new one", net.New(), nil, 0)
}

// At first no link is cut, of any end to any.
func TestSendFromAllEndsToAll(t *testing.T) {
	var want []api.Datagram
	n := net.New()
	for from := range 64 {
		for to := from % 3; to < 64; to += 3 {
			x := one(from, to, byte(from), byte(to))
			wantErr(t, "Send", n.Send(x), api.OK)
			want = append(want, x)
		}
	}
	wantHas(t, "all", n, want, 0)
}

func TestSendOfNoEnds(t *testing.T) {
	n := netOf(t, one(0, 63, 1), one(63, 0, 2))
	for _, end := range notEnds {
		for _, other := range []int{0, 1, 63, end} {
			wantErr(t, "from no end", n.Send(one(end, other, 3)), api.ErrArg)
			wantErr(t, "to no end", n.Send(one(other, end, 3)), api.ErrArg)
		}
		wantErr(t, "no end, and too long", n.Send(api.Datagram{From: end, B: make([]byte, 1501)}), api.ErrArg)
	}
	wantHas(t, "none of them", n, []api.Datagram{one(0, 63, 1), one(63, 0, 2)}, 0)
}

func TestSendOfEachLength(t *testing.T) {
	n := net.New()
	for size := range 1700 {
		b := bytes.Repeat([]byte{byte(size)}, size)
		err := n.Send(api.Datagram{From: 1, To: 2, B: b})
		if size > 1500 {
			wantErr(t, "too long", err, api.ErrLong)
			wantNoTake(t, n, 0, api.ErrMissing)
			continue
		}
		wantErr(t, "not too long", err, api.OK)
		wantTake(t, n, 0, api.Datagram{From: 1, To: 2, B: b})
	}
	for _, size := range []int{1 << 16, 1<<16 + 1, 1 << 20} {
		wantErr(t, "far too long", n.Send(api.Datagram{B: make([]byte, size)}), api.ErrLong)
	}
	wantErr(t, "spare room is none of it", n.Send(api.Datagram{B: make([]byte, 1500, 1501)}), api.OK)
	wantErr(t, "nil", n.Send(api.Datagram{}), api.OK)
	wantHas(t, "what was not refused", n, []api.Datagram{{B: make([]byte, 1500)}, {}}, 0)
}

func TestSendOfMoreThanThereIsRoomFor(t *testing.T) {
	want := numbered(2000)
	n := net.New()
	for i, x := range want {
		if err := n.Send(x); err != api.OK {
			t.Fatalf("Send of the %d-th: %v", i, err)
		}
	}
	for range 3 {
		wantErr(t, "one more", n.Send(one(3, 4, 5)), api.ErrFull)
	}
	wantErr(t, "one more without bytes", n.Send(one(0, 0)), api.ErrFull)
	wantHas(t, "all full", n, want, 0)

	wantTake(t, n, 1999, want[1999])
	wantErr(t, "one again", n.Send(one(3, 4, 5)), api.OK)
	wantErr(t, "and one more", n.Send(one(3, 4, 6)), api.ErrFull)
	wantErr(t, "Drop", n.Drop(0), api.OK)
	wantErr(t, "one again", n.Send(one(3, 4, 7)), api.OK)
	wantErr(t, "and one more", n.Send(one(3, 4, 8)), api.ErrFull)
	wantHas(t, "full again", n, slices.Concat(want[1:1999], []api.Datagram{one(3, 4, 5), one(3, 4, 7)}), 1)
}

// No end goes ahead of too long, too long ahead of lost, lost ahead of full.
func TestWhichErrorOfSendGoesFirst(t *testing.T) {
	want := numbered(2000)
	n := netOf(t, want...)
	wantErr(t, "Cut", n.Cut(5, 6, true), api.OK)
	wantErr(t, "no end, too long, full", n.Send(api.Datagram{From: 64, B: make([]byte, 1501)}), api.ErrArg)
	wantErr(t, "too long, cut, full", n.Send(api.Datagram{From: 5, To: 6, B: make([]byte, 1501)}), api.ErrLong)
	wantErr(t, "too long, full", n.Send(api.Datagram{B: make([]byte, 1501)}), api.ErrLong)
	wantErr(t, "no end, full", n.Send(one(5, 64, 1)), api.ErrArg)
	wantHas(t, "refused", n, want, 0)
	wantErr(t, "cut, full", n.Send(one(6, 5, 1)), api.OK)
	wantErr(t, "cut, full", n.Send(one(5, 6, 1)), api.OK)
	wantHas(t, "two lost", n, want, 2)
}

func TestSendKeepsNothingThatWasHandedIn(t *testing.T) {
	for _, size := range []int{0, 1, 2, 15, 16, 17, 1499, 1500} {
		x := api.Datagram{From: 1, To: 2, B: roomy(make([]byte, size))}
		was := bytes.Clone(x.B[:cap(x.B)])
		n := netOf(t, x)
		n.Copy(0)
		n.Turn(0, 0)
		n.Turn(0, 0)
		if !bytes.Equal(x.B[:cap(x.B)], was) {
			t.Errorf("%d bytes: what was sent was changed, or what is behind it", size)
		}
		spoil(x.B)
		wantHas(t, "sent and copied", n, []api.Datagram{one(1, 2, was[:size]...), one(1, 2, was[:size]...)}, 0)
	}
}
