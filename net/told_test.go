package net_test

import (
	"bytes"
	"slices"
	"testing"

	"satchel/api"
	"satchel/net"
)

// notNets are nets that New did not answer.
func notNets(t *testing.T) map[string]*net.Net {
	copied := *netOf(t, one(0, 1, 5), one(0, 2, 6))
	return map[string]*net.Net{"nil": nil, "a zero one": {}, "a copy": &copied}
}

func TestOfWhatIsNoNet(t *testing.T) {
	for what, n := range notNets(t) {
		wantErr(t, what, n.Send(one(0, 1, 5)), api.ErrNil)
		wantErr(t, what, n.Send(api.Datagram{From: 64, B: make([]byte, 1501)}), api.ErrNil)
		for _, i := range []int{-1, 0, 1, 2, 2000} {
			wantNoTake(t, n, i, api.ErrNil)
			wantErr(t, what, n.Drop(i), api.ErrNil)
			wantErr(t, what, n.Copy(i), api.ErrNil)
			wantErr(t, what, n.Turn(i, 0), api.ErrNil)
			wantErr(t, what, n.Turn(i, -1), api.ErrNil)
			wantErr(t, what, n.Swap(i, 0), api.ErrNil)
			wantErr(t, what, n.Cut(i, 0, true), api.ErrNil)
			wantErr(t, what, n.Cut(0, i, false), api.ErrNil)
			if at := n.First(i); at != 0 {
				t.Errorf("%s: the first one to %d at %d", what, i, at)
			}
		}
		if l, lost := n.Waiting(), n.Lost(); len(l) != 0 || lost != 0 {
			t.Errorf("%s: %v, %d", what, l, lost)
		}
	}
}

// What is done to a copy by value does nothing to the net.
func TestACopyOfANetDoesNothingToIt(t *testing.T) {
	n := netOf(t, one(0, 1, 5), one(0, 2, 6))
	copied := *n
	copied.Take(0)
	copied.Turn(0, 0)
	copied.Cut(0, 1, true)
	wantHas(t, "as it was", n, []api.Datagram{one(0, 1, 5), one(0, 2, 6)}, 0)
	wantErr(t, "Send", n.Send(one(0, 1, 7)), api.OK)
	wantHas(t, "not cut", n, []api.Datagram{one(0, 1, 5), one(0, 2, 6), one(0, 1, 7)}, 0)
}

func TestFirst(t *testing.T) {
	n := netOf(t, one(9, 63, 1), one(63, 0, 2), one(0, 63, 3), one(0, 0, 4))
	for _, x := range []struct{ to, want int }{{63, 0}, {0, 1}, {9, -1}, {1, -1}, {62, -1}} {
		if at := n.First(x.to); at != x.want {
			t.Errorf("the first one to %d at %d; want %d", x.to, at, x.want)
		}
	}
	for _, to := range notEnds {
		if at := n.First(to); at != -1 {
			t.Errorf("the first one to %d, which is no end, at %d", to, at)
		}
	}
	n.Take(0)
	if a, b := n.First(63), n.First(0); a != 1 || b != 0 {
		t.Error(a, b)
	}
	full := netOf(t, append(slices.Repeat([]api.Datagram{one(1, 2, 3)}, 1999), one(2, 1, 4))...)
	if at := full.First(1); at != 1999 {
		t.Error(at)
	}
}

func TestWaitingIsNewMemory(t *testing.T) {
	for _, size := range []int{0, 1, 2, 15, 16, 17, 1499, 1500} {
		b := bytes.Repeat([]byte{7}, size)
		n := netOf(t, api.Datagram{From: 1, To: 2, B: roomy(b)}, api.Datagram{From: 3, To: 4, B: b})
		l, again := n.Waiting(), n.Waiting()
		for i := range l {
			for _, c := range l[i].B[len(l[i].B):cap(l[i].B)] {
				if c != 0 {
					t.Errorf("%d bytes: %d in the spare room", size, c)
				}
			}
			spoil(l[i].B)
			l[i].From, l[i].To = 9, 9
		}
		want := []api.Datagram{{From: 1, To: 2, B: b}, {From: 3, To: 4, B: b}}
		if !slices.EqualFunc(again, want, same) {
			t.Errorf("%d bytes: two answers share their bytes", size)
		}
		clear(l[:cap(l)])
		wantHas(t, "asked", n, want, 0)
		n.Turn(0, 0)
		n.Take(1)
		if !slices.EqualFunc(again, want, same) {
			t.Errorf("%d bytes: an answer changes with the net", size)
		}
	}
}

// Of two that are on their way with the same bytes, an answer shares none.
func TestWaitingSharesNothingWithinOneAnswer(t *testing.T) {
	n := netOf(t, one(1, 2, 3))
	n.Copy(0)
	l := n.Waiting()
	spoil(l[0].B)
	if !same(l[1], one(1, 2, 3)) {
		t.Error(l)
	}
}

// Lost counts what was dropped and what was sent over a cut link, and nothing else.
func TestLostCountsWhatWasLost(t *testing.T) {
	n := netOf(t, numbered(10)...)
	n.Cut(7, 8, true)
	lost := 0
	want := func(what string) {
		t.Helper()
		if n.Lost() != lost {
			t.Errorf("%s: %d lost; want %d", what, n.Lost(), lost)
		}
	}
	for range 5 {
		n.Take(0)
		want("taken")
		n.Drop(0)
		lost++
		want("dropped")
		n.Send(one(8, 7, 1))
		lost++
		want("sent over a cut link")
		n.Drop(20)
		n.Send(one(8, 64, 1))
		n.Send(api.Datagram{From: 8, To: 7, B: make([]byte, 1501)})
		want("refused")
	}
}
