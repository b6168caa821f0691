package net_test

import (
	"bytes"
	"math"
	"slices"
	"testing"

	"satchel/api"
	"satchel/net"
)

// aboutPlaces are places that no net has, whatever is on its way.
var aboutPlaces = []int{math.MinInt, -1 << 32, -1 << 31, -2, -1, 2000, 2001, 1 << 31, 1 << 32, math.MaxInt}

// notEnds are numbers that no end has, those among them that would be ends if they were cut short.
var notEnds = []int{math.MinInt, -1 << 32, -1 << 31, -256, -64, -63, -2, -1, 64, 65, 127, 128, 255, 256, 1 << 31, 1 << 32, 1<<32 + 1, math.MaxInt}

// one tells a datagram of these bytes.
func one(from, to int, b ...byte) api.Datagram { return api.Datagram{From: from, To: to, B: b} }

// netOf tells a net with these on their way.
func netOf(t *testing.T, l ...api.Datagram) *net.Net {
	t.Helper()
	n := net.New()
	for _, x := range l {
		if err := n.Send(x); err != api.OK {
			t.Fatalf("Send of %v: %v", x, err)
		}
	}
	return n
}

// numbered tells so many datagrams, each of which has its place in its bytes.
func numbered(size int) []api.Datagram {
	var l []api.Datagram
	for i := range size {
		l = append(l, one(i%64, i/64%64, byte(i), byte(i>>8), 0))
	}
	return l
}

// same tells whether two datagrams are: no bytes and empty ones are the same.
func same(a, b api.Datagram) bool {
	return a.From == b.From && a.To == b.To && bytes.Equal(a.B, b.B)
}

// deep tells the same datagrams with bytes of their own.
func deep(l []api.Datagram) []api.Datagram {
	l = slices.Clone(l)
	for i := range l {
		l[i].B = bytes.Clone(l[i].B)
	}
	return l
}

// first tells the place of the first one to an end, in another way than the program.
func first(l []api.Datagram, to int) int {
	return slices.IndexFunc(l, func(x api.Datagram) bool { return x.To == to })
}

// wantHas holds all that a net tells of itself against what it should.
func wantHas(t *testing.T, what string, n *net.Net, want []api.Datagram, lost int) {
	t.Helper()
	if got := n.Waiting(); !slices.EqualFunc(got, want, same) {
		t.Errorf("%s: %d on their way: %.200v; want %d: %.200v", what, len(got), got, len(want), want)
	}
	if got := n.Lost(); got != lost {
		t.Errorf("%s: %d lost; want %d", what, got, lost)
	}
	for to := -1; to <= 64; to++ {
		if got := n.First(to); got != first(want, to) {
			t.Errorf("%s: the first one to %d at %d; want %d", what, to, got, first(want, to))
		}
	}
}

// wantErr holds an error against the one that it should be.
func wantErr(t *testing.T, what string, got, want api.Errno) {
	t.Helper()
	if got != want {
		t.Errorf("%s: %v; want %v", what, got, want)
	}
}

// wantTake takes a datagram, and holds it against the one that it should be.
func wantTake(t *testing.T, n *net.Net, i int, want api.Datagram) {
	t.Helper()
	if x, err := n.Take(i); err != api.OK || !same(x, want) {
		t.Errorf("Take(%d): %v, %v; want %v", i, x, err, want)
	}
}

// wantNoTake says that there is none at a place, and that nothing is told of it.
func wantNoTake(t *testing.T, n *net.Net, i int, want api.Errno) {
	t.Helper()
	if x, err := n.Take(i); err != want || !same(x, api.Datagram{}) {
		t.Errorf("Take(%d): %v, %v; want %v", i, x, err, want)
	}
}

// spoil writes over bytes and over all their spare room.
func spoil(b []byte) {
	all := b[:cap(b)]
	for i := range all {
		all[i] ^= 85
	}
}

// roomy tells the same bytes with spare room behind them, which holds others.
func roomy(b []byte) []byte {
	all := append(bytes.Clone(b), 90, 91, 92, 93, 94, 95, 96, 97)
	return all[:len(b)]
}
