package inbox_test

import (
	"slices"
	"testing"

	"satchel/api"
)

// From the last one down to the awaited one, over and over, so that what waits lies over the ring's end at each of its places.
func TestBackwards(t *testing.T) {
	for _, size := range []int{2, 3, 7, 32, 63, 64} {
		x := newInbox(t, size)
		for next := 1; next < 400; next += size {
			for n := next + size - 1; n > next; n-- {
				wantTake(t, x, n)
			}
			wantIs(t, x, next, upTo(next+1, next+size-1)...)
			wantNoTake(t, x, next+size, api.ErrFull)
			wantTake(t, x, next, upTo(next, next+size-1)...)
			wantIs(t, x, next+size)
		}
	}
}

// Pairs that change places: each second one waits for one turn.
func TestPairs(t *testing.T) {
	for size := 2; size <= 64; size += 31 {
		x := newInbox(t, size)
		for n := 1; n < 300; n += 2 {
			wantTake(t, x, n+1)
			wantNoTake(t, x, n+1, api.ErrThere)
			wantTake(t, x, n, n, n+1)
			wantIs(t, x, n+2)
		}
	}
}

// A number is told from each other one that has its place another time round.
func TestNumbersOfOnePlace(t *testing.T) {
	for _, next := range []int{1, 2, 30, 63, 64, 65, 66, 127, 128, 129} {
		for ahead := 1; ahead < 64; ahead++ {
			x := inboxAt(t, 64, next)
			n := next + ahead
			wantTake(t, x, n)
			for k := -3; k <= 5; k++ {
				for _, turn := range []int{8, 16, 32, 63, 64, 65, 128, 1 << 16, 1 << 20} {
					m := n + k*turn
					if is := x.Has(m); is != (m == n || m >= 1 && m < next) {
						t.Errorf("%d is awaited, %d is held: Has(%d): %v", next, n, m, is)
					}
					if m >= next+64 {
						wantNoTake(t, x, m, api.ErrFull)
					}
				}
			}
			wantIs(t, x, next, n)
		}
	}
}

// What was told is not held any more when its place comes again.
func TestPlacesComeAgain(t *testing.T) {
	for _, size := range []int{1, 2, 63, 64} {
		x := inboxAt(t, size, 65)
		for n := 65; n < 65+size-1; n++ {
			if x.Has(n) {
				t.Errorf("Has(%d)", n)
			}
			wantTake(t, x, n, n)
			wantIs(t, x, n+1)
		}
	}
}

// Each third one comes as early as it may, the others in their turn: some wait at all times, while the ring goes round.
func TestThirdsAhead(t *testing.T) {
	for _, size := range []int{2, 3, 4, 10, 62, 63, 64} {
		x := newInbox(t, size)
		next, third := 1, 3
		for next < 300 {
			for ; third < next+size; third += 3 {
				wantTake(t, x, third)
			}
			wantNoTake(t, x, next+size, api.ErrFull)
			var held []int
			for n := third - 3; n >= next; n -= 3 {
				held = append(held, n)
			}
			wantIs(t, x, next, held...)
			if slices.Contains(held, next+1) {
				wantTake(t, x, next, next, next+1)
				next += 2
			} else {
				wantTake(t, x, next, next)
				next++
			}
		}
	}
}

// Each order in which a few may come tells the same in the end, each once.
func TestEachOrder(t *testing.T) {
	var orders func(rest, ahead []int, do func([]int))
	orders = func(rest, ahead []int, do func([]int)) {
		if len(rest) == 0 {
			do(ahead)
		}
		for i, n := range rest {
			orders(append(slices.Clone(rest[:i]), rest[i+1:]...), append(slices.Clone(ahead), n), do)
		}
	}
	for _, next := range []int{1, 60, 62, 64} {
		orders(upTo(next, next+5), nil, func(order []int) {
			x := inboxAt(t, 6, next)
			var told [][]byte
			for i, n := range order {
				l, err := x.Take(n, body(n))
				told = append(told, l...)
				if err != api.OK || x.Next() != next+len(told) || x.Held() != i+1-len(told) {
					t.Errorf("%v: %d: %q, %v", order, n, l, err)
				}
			}
			if !slices.EqualFunc(told, bodies(upTo(next, next+5)), slices.Equal) {
				t.Errorf("%v: %q", order, told)
			}
		})
	}
}
