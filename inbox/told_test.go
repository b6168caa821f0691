package inbox_test

import (
	"testing"

	"satchel/api"
	"satchel/inbox"
)

func TestOfWhatIsNoInbox(t *testing.T) {
	whole := inboxAt(t, 3, 2)
	wantTake(t, whole, 3)
	copied := *whole
	for what, x := range map[string]*inbox.Inbox{"nil": nil, "a zero one": {}, "a copy": &copied} {
		t.Log(what)
		for _, n := range append([]int{1, 2, 3, 4, 5, 64, lastSeq}, notNumbers...) {
			wantNoTake(t, x, n, api.ErrNil)
			if x.Has(n) {
				t.Errorf("Has(%d)", n)
			}
		}
		if x.Next() != 0 || x.Held() != 0 {
			t.Error(x.Next(), x.Held())
		}
	}
	wantIs(t, whole, 2, 3)
}

// Two inboxes have nothing of one another.
func TestTwoInboxes(t *testing.T) {
	x, y := newInbox(t, 4), newInbox(t, 4)
	wantTake(t, x, 2)
	wantIs(t, y, 1)
	wantTake(t, y, 3)
	wantTake(t, x, 1, 1, 2)
	wantIs(t, x, 3)
	wantIs(t, y, 1, 3)
}

// A place where something was held is not held for long: how many are held is told as they come and as they go.
func TestHeldAsTheyComeAndGo(t *testing.T) {
	x := newInbox(t, 64)
	for round := range 4 {
		next := 1 + 64*round
		for k := 1; k < 64; k++ {
			wantTake(t, x, next+k)
			if x.Held() != k || x.Next() != next {
				t.Error(round, k, x.Held(), x.Next())
			}
		}
		wantTake(t, x, next, upTo(next, next+63)...)
		if x.Held() != 0 || x.Next() != next+64 {
			t.Error(round, x.Held(), x.Next())
		}
	}
}

// What was asked for, and what was refused, leaves an inbox as it was.
func TestAskingChangesNothing(t *testing.T) {
	x := inboxAt(t, 5, 70)
	wantTake(t, x, 72)
	wantTake(t, x, 74)
	for range 5 {
		wantIs(t, x, 70, 72, 74)
		for _, n := range []int{1, 2, 64, 69, 72, 74} {
			wantNoTake(t, x, n, api.ErrThere)
		}
		for _, n := range []int{75, 76, 128, 134, 136, 138, lastSeq} {
			wantNoTake(t, x, n, api.ErrFull)
		}
		for _, n := range notNumbers {
			wantNoTake(t, x, n, api.ErrRange)
		}
	}
	wantTake(t, x, 71)
	wantTake(t, x, 70, 70, 71, 72)
	wantTake(t, x, 73, 73, 74)
	wantIs(t, x, 75)
}
