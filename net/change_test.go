package net_test

import (
	"bytes"
	"math"
	"slices"
	"testing"

	"satchel/api"
	"satchel/net"
)

func TestTakeOfEachPlace(t *testing.T) {
	for size := range 8 {
		for i := range size {
			want := numbered(size)
			n := netOf(t, want...)
			wantTake(t, n, i, want[i])
			wantHas(t, "one taken", n, slices.Delete(deep(want), i, i+1), 0)
			wantNoTake(t, n, size-1, api.ErrMissing)
		}
	}
}

func TestDropOfEachPlace(t *testing.T) {
	for size := range 8 {
		for i := range size {
			want := numbered(size)
			n := netOf(t, want...)
			wantErr(t, "Drop", n.Drop(i), api.OK)
			wantHas(t, "one dropped", n, slices.Delete(deep(want), i, i+1), 1)
			wantErr(t, "Drop behind the end", n.Drop(size-1), api.ErrMissing)
			wantHas(t, "none dropped", n, slices.Delete(deep(want), i, i+1), 1)
		}
	}
}

func TestCopyOfEachPlace(t *testing.T) {
	for size := range 8 {
		for i := range size {
			want := numbered(size)
			n := netOf(t, want...)
			wantErr(t, "Copy", n.Copy(i), api.OK)
			wantErr(t, "Copy of the copy", n.Copy(size), api.OK)
			wantHas(t, "two more", n, append(want, want[i], want[i]), 0)
		}
	}
}

func TestSwapOfAllPlaces(t *testing.T) {
	for size := range 8 {
		for i := range size {
			for k := range size {
				want := numbered(size)
				n := netOf(t, want...)
				wantErr(t, "Swap", n.Swap(i, k), api.OK)
				want[i], want[k] = want[k], want[i]
				wantHas(t, "swapped", n, want, 0)
				wantTake(t, n, i, want[i])
				wantHas(t, "swapped, and one taken", n, slices.Delete(want, i, i+1), 0)
			}
		}
	}
}

// What was taken, from the front and from the back, makes room again for what is sent.
func TestTakeOfAllAndSendAgain(t *testing.T) {
	l := numbered(5)
	n := netOf(t, l...)
	for i := range l {
		wantTake(t, n, 0, l[i])
	}
	wantHas(t, "all taken", n, nil, 0)
	for _, x := range l {
		wantErr(t, "Send", n.Send(x), api.OK)
	}
	for i := range l {
		wantTake(t, n, 4-i, l[4-i])
	}
	wantHas(t, "all taken again", n, nil, 0)
	wantNoTake(t, n, 0, api.ErrMissing)
	wantErr(t, "Send", n.Send(l[0]), api.OK)
	wantHas(t, "one again", n, l[:1], 0)
}

func TestPlacesThatThereAreNot(t *testing.T) {
	for _, size := range []int{0, 1, 2, 3, 100, 2000} {
		want := numbered(size)
		n := netOf(t, want...)
		for _, i := range append([]int{size, size + 1}, aboutPlaces...) {
			wantNoTake(t, n, i, api.ErrMissing)
			wantErr(t, "Drop", n.Drop(i), api.ErrMissing)
			wantErr(t, "Copy", n.Copy(i), api.ErrMissing)
			wantErr(t, "Turn", n.Turn(i, 0), api.ErrMissing)
			wantErr(t, "Turn of no bit", n.Turn(i, -1), api.ErrMissing)
			wantErr(t, "Swap with itself", n.Swap(i, i), api.ErrMissing)
			wantErr(t, "Swap with the first", n.Swap(i, 0), api.ErrMissing)
			wantErr(t, "Swap of the first", n.Swap(0, i), api.ErrMissing)
			wantErr(t, "Swap with the last", n.Swap(i, size-1), api.ErrMissing)
			wantErr(t, "Swap of the last", n.Swap(size-1, i), api.ErrMissing)
		}
		wantHas(t, "none of them", n, want, 0)
	}
}

func TestPlacesAtTheEndOfAFullNet(t *testing.T) {
	want := numbered(2000)
	n := netOf(t, want...)
	for _, i := range []int{0, 1, 1000, 1998, 1999} {
		wantErr(t, "Copy while it is full", n.Copy(i), api.ErrFull)
		wantErr(t, "Turn", n.Turn(i, 23), api.OK)
		want[i].B[2] ^= 128
	}
	wantErr(t, "Copy of none while it is full", n.Copy(2000), api.ErrMissing)
	wantErr(t, "Swap", n.Swap(0, 1999), api.OK)
	want[0], want[1999] = want[1999], want[0]
	wantHas(t, "full", n, want, 0)

	wantTake(t, n, 1999, want[1999])
	wantErr(t, "Copy", n.Copy(0), api.OK)
	want[1999] = want[0]
	wantErr(t, "Copy while it is full again", n.Copy(0), api.ErrFull)
	wantHas(t, "full again", n, want, 0)
}

// Bit 0 is the lowest one of the first byte; each is turned there and back.
func TestTurnOfEachBit(t *testing.T) {
	for _, size := range []int{0, 1, 2, 3, 1500} {
		was := bytes.Repeat([]byte{1, 0, 255, 128, 90}, 300)[:size]
		n := netOf(t, one(1, 2, 7), one(3, 4, was...), one(5, 6, 8))
		for bit := -20; bit < 8*size+20; bit++ {
			is := bit >= 0 && bit < 8*size
			want := bytes.Clone(was)
			wanted := api.ErrRange
			if is {
				wanted = api.OK
				want[bit/8] ^= []byte{1, 2, 4, 8, 16, 32, 64, 128}[bit%8]
			}
			wantErr(t, "Turn", n.Turn(1, bit), wanted)
			if l := n.Waiting(); !slices.EqualFunc(l, []api.Datagram{one(1, 2, 7), one(3, 4, want...), one(5, 6, 8)}, same) {
				t.Fatalf("%d bytes, bit %d: %v", size, bit, l)
			}
			wantErr(t, "Turn back", n.Turn(1, bit), wanted)
		}
		for _, bit := range []int{math.MinInt, -1 << 32, -1 << 31, 12000, 12001, 1 << 31, 1 << 32, math.MaxInt} {
			wantErr(t, "Turn of no bit", n.Turn(1, bit), api.ErrRange)
		}
		wantHas(t, "turned back", n, []api.Datagram{one(1, 2, 7), one(3, 4, was...), one(5, 6, 8)}, 0)
	}
}

// A copy goes its own way: what is turned of one is not of the other.
func TestACopyIsOneByItself(t *testing.T) {
	n := netOf(t, one(1, 2, 0, 0))
	wantErr(t, "Turn", n.Turn(0, 15), api.OK)
	wantErr(t, "Copy", n.Copy(0), api.OK)
	wantErr(t, "Turn of what was copied", n.Turn(0, 0), api.OK)
	wantErr(t, "Turn of the copy", n.Turn(1, 9), api.OK)
	wantHas(t, "turned", n, []api.Datagram{one(1, 2, 1, 128), one(1, 2, 0, 130)}, 0)
	wantErr(t, "Drop", n.Drop(0), api.OK)
	wantTake(t, n, 0, one(1, 2, 0, 130))
}

func TestTakeIsNewMemory(t *testing.T) {
	for _, size := range []int{0, 1, 2, 15, 16, 17, 1499, 1500} {
		b := bytes.Repeat([]byte{7}, size)
		n := netOf(t, api.Datagram{B: roomy(b)}, api.Datagram{B: b})
		n.Copy(0)
		x, _ := n.Take(0)
		for _, c := range x.B[len(x.B):cap(x.B)] {
			if c != 0 {
				t.Errorf("%d bytes: %d in the spare room", size, c)
			}
		}
		spoil(x.B)
		wantHas(t, "what is still on its way", n, []api.Datagram{{B: b}, {B: b}}, 0)
	}
}

func TestNetsAreApart(t *testing.T) {
	a, b := net.New(), net.New()
	a.Send(one(1, 2, 3))
	a.Cut(1, 2, true)
	a.Send(one(1, 2, 3))
	wantHas(t, "another net", b, nil, 0)
	wantErr(t, "Send", b.Send(one(1, 2, 4)), api.OK)
	wantHas(t, "the other", b, []api.Datagram{one(1, 2, 4)}, 0)
	wantHas(t, "the one", a, []api.Datagram{one(1, 2, 3)}, 1)
}
