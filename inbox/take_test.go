package inbox_test

import (
	"bytes"
	"testing"

	"satchel/api"
	"satchel/inbox"
)

func TestExamples(t *testing.T) {
	a, b, c, d := []byte("a"), []byte("b"), []byte("c"), []byte("d")
	x := newInbox(t, 2)
	wantBodies(t, x, 2, b)
	if l, err := x.Take(2, c); l != nil || err != api.ErrThere {
		t.Error(l, err)
	}
	if l, err := x.Take(3, d); l != nil || err != api.ErrFull {
		t.Error(l, err)
	}
	wantIs(t, x, 1, 2)
	wantBodies(t, x, 1, a, a, b)
	wantIs(t, x, 3)
	if l, err := x.Take(1, a); l != nil || err != api.ErrThere {
		t.Error(l, err)
	}
	if !x.Has(1) || x.Has(3) {
		t.Error(x.Has(1), x.Has(3))
	}
	if l, err := x.Take(0, a); l != nil || err != api.ErrRange {
		t.Error(l, err)
	}
}

func TestNewOfEachSize(t *testing.T) {
	for size := 1; size <= 64; size++ {
		wantIs(t, newInbox(t, size), 1)
	}
	for _, size := range notSizes {
		if x, err := inbox.New(size); x != nil || err != api.ErrArg {
			t.Errorf("New(%d): %v, %v", size, x, err)
		}
	}
}

func TestTakeInOrder(t *testing.T) {
	for _, size := range []int{1, 2, 3, 63, 64} {
		x := newInbox(t, size)
		for n := 1; n <= 300; n++ {
			wantTake(t, x, n, n)
			wantIs(t, x, n+1)
		}
	}
}

// Wherever a body lies ahead of its turn it waits there, by itself, till those ahead of it came; at the size it is refused.
func TestTakeAheadOfItsTurn(t *testing.T) {
	for size := 1; size <= 64; size++ {
		for _, next := range []int{1, 2, 64, 65} {
			for ahead := 1; ahead < size; ahead += max(1, size/5) {
				x := inboxAt(t, size, next)
				wantTake(t, x, next+ahead)
				wantIs(t, x, next, next+ahead)
				for n := next; n < next+ahead-1; n++ {
					wantTake(t, x, n, n)
				}
				wantTake(t, x, next+ahead-1, next+ahead-1, next+ahead)
				wantIs(t, x, next+ahead+1)
			}
			x := inboxAt(t, size, next)
			for _, n := range []int{next + size, next + size + 1, next + 2*size, next + 63, next + 64, next + 65, next + 128, lastSeq - 1, lastSeq} {
				if n >= next+size {
					wantNoTake(t, x, n, api.ErrFull)
				}
			}
			wantIs(t, x, next)
		}
	}
}

// The last one that may wait is the one at the size less one; the one behind it may as soon as one was told.
func TestTakeAtTheSize(t *testing.T) {
	for size := 2; size <= 64; size++ {
		x := newInbox(t, size)
		wantNoTake(t, x, size+1, api.ErrFull)
		wantTake(t, x, size)
		wantNoTake(t, x, size+1, api.ErrFull)
		wantIs(t, x, 1, size)
		if size == 2 {
			wantTake(t, x, 1, 1, 2)
			continue
		}
		wantTake(t, x, 1, 1)
		wantNoTake(t, x, size+2, api.ErrFull)
		wantTake(t, x, size+1)
		wantIs(t, x, 2, size, size+1)
	}
}

// An inbox of one holds nothing.
func TestASizeOfOne(t *testing.T) {
	x := newInbox(t, 1)
	for n := 1; n <= 200; n++ {
		wantNoTake(t, x, n+1, api.ErrFull)
		wantNoTake(t, x, n+64, api.ErrFull)
		wantTake(t, x, n, n)
		wantNoTake(t, x, n, api.ErrThere)
		wantIs(t, x, n+1)
	}
}

// Each that lies together with the awaited one is told, and none behind a gap.
func TestTakeUpToAGap(t *testing.T) {
	for gap := 2; gap <= 8; gap++ {
		for next := 60; next <= 66; next++ {
			x := inboxAt(t, 8, next)
			held := upTo(next+1, next+7)
			held = append(held[:gap-2:gap-2], held[gap-1:]...)
			for _, n := range held {
				wantTake(t, x, n)
			}
			wantIs(t, x, next, held...)
			wantTake(t, x, next, upTo(next, next+gap-2)...)
			wantIs(t, x, next+gap-1, held[gap-2:]...)
			wantTake(t, x, next+gap-1, upTo(next+gap-1, next+7)...)
			wantIs(t, x, next+8)
		}
	}
}

func TestTakeOfWhatIsNoNumber(t *testing.T) {
	x := newInbox(t, 64)
	wantTake(t, x, 3)
	for range 2 {
		for _, n := range notNumbers {
			wantNoTake(t, x, n, api.ErrRange)
		}
		wantIs(t, x, 1, 3)
	}
	wantTake(t, x, 1, 1)
	wantTake(t, x, 2, 2, 3)
	for _, n := range notNumbers {
		wantNoTake(t, x, n, api.ErrRange)
	}
	wantIs(t, x, 4)
}

// The last number that there is may have a body, though not yet.
func TestTakeOfTheLastNumber(t *testing.T) {
	for _, size := range []int{1, 2, 64} {
		x := inboxAt(t, size, 70)
		wantNoTake(t, x, lastSeq, api.ErrFull)
		wantNoTake(t, x, lastSeq+1, api.ErrRange)
		wantIs(t, x, 70)
	}
}

// The first body of a number counts: another one is refused while it waits, and when it was told, and does nothing to it.
func TestTheFirstBodyCounts(t *testing.T) {
	for _, other := range [][]byte{nil, {}, []byte("b"), []byte("B"), []byte("longer than the first")} {
		x := newInbox(t, 4)
		wantBodies(t, x, 2, []byte("b"))
		wantBodies(t, x, 4, nil)
		for range 3 {
			for _, n := range []int{2, 4} {
				if l, err := x.Take(n, other); len(l) > 0 || err != api.ErrThere {
					t.Error(n, l, err)
				}
			}
			wantIs(t, x, 1, 2, 4)
		}
		wantBodies(t, x, 1, []byte("a"), []byte("a"), []byte("b"))
		for n := 1; n <= 2; n++ {
			if l, err := x.Take(n, other); len(l) > 0 || err != api.ErrThere {
				t.Error(n, l, err)
			}
		}
		wantIs(t, x, 3, 4)
		wantBodies(t, x, 3, []byte("c"), []byte("c"), nil)
		wantIs(t, x, 5)
	}
}

// All that were told are there ever after.
func TestTakeOfWhatWasTold(t *testing.T) {
	for _, size := range []int{1, 2, 64} {
		x := inboxAt(t, size, 200)
		for n := 1; n < 200; n++ {
			wantNoTake(t, x, n, api.ErrThere)
		}
		wantIs(t, x, 200)
	}
}

// No bytes are a body as others are: it waits, is there, and is told in its place.
func TestTakeOfEmptyBodies(t *testing.T) {
	for _, empty := range [][]byte{nil, {}, make([]byte, 0, 9)} {
		x := newInbox(t, 3)
		wantBodies(t, x, 3, empty)
		wantBodies(t, x, 2, empty)
		wantIs(t, x, 1, 2, 3)
		wantNoTake(t, x, 2, api.ErrThere)
		wantNoTake(t, x, 3, api.ErrThere)
		wantNoTake(t, x, 4, api.ErrFull)
		wantBodies(t, x, 1, empty, nil, nil, nil)
		wantIs(t, x, 4)
		wantBodies(t, x, 4, empty, nil)
	}
}

func TestTakeOfEachLength(t *testing.T) {
	for _, size := range []int{0, 1, 2, 7, 8, 9, 15, 16, 255, 256, 1399, 1400, 1401, 1500, 1 << 16, 1 << 20} {
		b := bytes.Repeat([]byte{7, 0, 255}, size)[:size]
		x := newInbox(t, 3)
		wantBodies(t, x, 2, b)
		wantBodies(t, x, 1, b, b, b)
		wantBodies(t, x, 3, b, b)
	}
}
