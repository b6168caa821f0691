package net_test

import (
	"testing"

	"satchel/api"
	"satchel/net"
)

// cutEnds are ends whose links are cut one by one.
var cutEnds = []int{0, 1, 2, 31, 62, 63}

// wantCut says over which links what is sent is lost: over that between a and b, if it is cut, and over no other.
func wantCut(t *testing.T, what string, n *net.Net, a, b int, is bool) {
	t.Helper()
	for _, from := range cutEnds {
		for _, to := range cutEnds {
			lost := n.Lost()
			if is && (from == a && to == b || from == b && to == a) {
				lost++
			}
			wantErr(t, what, n.Send(one(from, to, 1)), api.OK)
			if n.Lost() != lost {
				t.Errorf("%s: %d and %d: from %d to %d: %d lost; want %d", what, a, b, from, to, n.Lost(), lost)
			}
			n.Take(0)
		}
	}
	if l := n.Waiting(); len(l) > 0 {
		t.Fatalf("%s: %v", what, l)
	}
}

// A link is cut, and joined, both ways, whichever end is named first, and however often it is said.
func TestCutAndJoin(t *testing.T) {
	for _, a := range cutEnds {
		for _, b := range cutEnds {
			n := net.New()
			wantCut(t, "at first", n, a, b, false)
			wantErr(t, "join", n.Cut(a, b, false), api.OK)
			wantCut(t, "joined, and never cut", n, a, b, false)
			wantErr(t, "cut", n.Cut(a, b, true), api.OK)
			wantCut(t, "cut", n, a, b, true)
			wantErr(t, "cut", n.Cut(b, a, true), api.OK)
			wantCut(t, "cut twice", n, a, b, true)
			wantErr(t, "join", n.Cut(b, a, false), api.OK)
			wantCut(t, "joined from the other end", n, a, b, false)
			wantErr(t, "cut", n.Cut(a, b, true), api.OK)
			wantErr(t, "join", n.Cut(a, b, false), api.OK)
			wantCut(t, "joined from the same end", n, a, b, false)
		}
	}
}

func TestCutOfNoEnds(t *testing.T) {
	n := net.New()
	for _, end := range notEnds {
		for _, is := range []bool{true, false} {
			for _, other := range []int{0, 1, 63, end} {
				wantErr(t, "no end first", n.Cut(end, other, is), api.ErrArg)
				wantErr(t, "no end last", n.Cut(other, end, is), api.ErrArg)
			}
		}
	}
	wantCut(t, "none", n, -1, -1, false)
	n.Cut(0, 1, true)
	for _, end := range notEnds {
		n.Cut(end, 1, false)
		n.Cut(0, end, false)
	}
	wantCut(t, "still cut", n, 0, 1, true)
}

// A link that is cut loses what is sent over it, and nothing else: what is on its way over it may still be copied, turned, swapped and taken.
func TestCutLeavesWhatIsOnItsWay(t *testing.T) {
	n := netOf(t, one(0, 1, 5), one(1, 0, 6), one(2, 3, 7))
	wantErr(t, "Cut", n.Cut(0, 1, true), api.OK)
	wantHas(t, "cut", n, []api.Datagram{one(0, 1, 5), one(1, 0, 6), one(2, 3, 7)}, 0)
	wantErr(t, "Copy", n.Copy(0), api.OK)
	wantErr(t, "Turn", n.Turn(1, 0), api.OK)
	wantErr(t, "Swap", n.Swap(0, 2), api.OK)
	wantHas(t, "changed", n, []api.Datagram{one(2, 3, 7), one(1, 0, 7), one(0, 1, 5), one(0, 1, 5)}, 0)
	wantErr(t, "Send", n.Send(one(0, 1, 8)), api.OK)
	wantTake(t, n, 1, one(1, 0, 7))
	wantHas(t, "one lost, one taken", n, []api.Datagram{one(2, 3, 7), one(0, 1, 5), one(0, 1, 5)}, 1)
	wantErr(t, "Cut", n.Cut(1, 0, false), api.OK)
	wantHas(t, "what was lost stays so", n, []api.Datagram{one(2, 3, 7), one(0, 1, 5), one(0, 1, 5)}, 1)
}
