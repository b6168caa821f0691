package inbox_test

import (
	"bytes"
	"math"
	"math/rand"
	"slices"
	"testing"

	"satchel/api"
	"satchel/inbox"
)

// telling is an inbox as the document's words say it, told in another way: all that was ever taken, by its number, and how many of it were told.
type telling struct {
	size  int
	taken map[int][]byte
	told  int
}

func (m *telling) next() int { return m.told + 1 }

func (m *telling) has(seq int) bool {
	_, is := m.taken[seq]
	return is
}

func (m *telling) held() int { return len(m.taken) - m.told }

func (m *telling) take(seq int, b []byte) ([][]byte, api.Errno) {
	switch {
	case seq <= 0 || seq > lastSeq:
		return nil, api.ErrRange
	case m.has(seq):
		return nil, api.ErrThere
	case seq > m.told+m.size:
		return nil, api.ErrFull
	}
	m.taken[seq] = bytes.Clone(b)
	var l [][]byte
	for m.has(m.next()) {
		l = append(l, m.taken[m.next()])
		m.told++
	}
	return l, api.OK
}

// both is an inbox and its telling, to which the same is done.
type both struct {
	x    *inbox.Inbox
	m    *telling
	r    *rand.Rand
	errs map[api.Errno]int // how often each was answered
}

// number tells a number: mostly one that may be taken, now and then another one, or none.
func (x both) number() int {
	switch x.r.Intn(12) {
	case 0:
		return []int{-1, 0, 1, lastSeq, lastSeq + 1, 1 << 31, 1<<32 + x.m.next(), math.MinInt, math.MaxInt}[x.r.Intn(9)]
	case 1:
		return x.m.next() + 2*x.r.Intn(70) - 70
	case 2:
		return x.m.next() + x.m.size - 1 + x.r.Intn(3)
	case 3:
		return x.m.next()
	}
	return x.m.next() + x.r.Intn(x.m.size)
}

// do takes one, and says whether both answered the same.
func (x both) do() (int, bool) {
	b := make([]byte, x.r.Intn(5))
	x.r.Read(b)
	seq := x.number()
	got, err := x.x.Take(seq, b)
	want, wanted := x.m.take(seq, b)
	x.errs[err]++
	return seq, slices.EqualFunc(got, want, bytes.Equal) && err == wanted
}

// alike says whether an inbox tells of itself what its telling does.
func (x both) alike() bool {
	for n := x.m.next() - 70; n < x.m.next()+140; n++ {
		if x.x.Has(n) != x.m.has(n) {
			return false
		}
	}
	return x.x.Next() == x.m.next() && x.x.Held() == x.m.held()
}

// Whatever is taken, in whatever order, is told as the document's words say it.
func TestAsTheWordsSay(t *testing.T) {
	errs := map[api.Errno]int{}
	for seed := range int64(210) {
		size := []int{1, 2, 3, 5, 32, 63, 64}[seed%7]
		x := both{newInbox(t, size), &telling{size: size, taken: map[int][]byte{}}, rand.New(rand.NewSource(seed)), errs}
		for i := range 600 {
			if seq, is := x.do(); !is || !x.alike() {
				t.Fatalf("seed %d, the %d-th: Take(%d) is not as the words say", seed, i, seq)
			}
		}
		if x.m.told < 64 {
			t.Errorf("seed %d: just %d were told", seed, x.m.told)
		}
	}
	for _, e := range []api.Errno{api.OK, api.ErrRange, api.ErrThere, api.ErrFull} {
		if errs[e] == 0 {
			t.Errorf("%v is never answered", e)
		}
	}
	if len(errs) != 4 {
		t.Error(errs)
	}
}

// What comes is sent over and over, is lost, doubled and put in another order, each time with another body: what is told are the bodies of all numbers from 1 on, each once, in order, and of each the first that was taken. Never are more held than the size less one.
func TestInOrderAndOnce(t *testing.T) {
	for seed := range int64(60) {
		r := rand.New(rand.NewSource(seed))
		size := 1 + r.Intn(64)
		x := newInbox(t, size)
		first := map[int][]byte{}
		n := 0
		for round := 0; n < 500 && round < 100000; round++ {
			seq := x.Next() + r.Intn(size+4) - 3
			b := of(round, r.Intn(4))
			l, err := x.Take(seq, b)
			if _, was := first[seq]; was && err != api.ErrThere {
				t.Fatalf("seed %d: %d again: %q, %v", seed, seq, l, err)
			}
			if err == api.OK {
				first[seq] = b
			} else if len(l) > 0 {
				t.Fatalf("seed %d: %q beside %v", seed, l, err)
			}
			for _, b := range l {
				n++
				if was, is := first[n]; !is || !bytes.Equal(b, was) {
					t.Fatalf("seed %d: %d is told as %q, and was %q", seed, n, b, was)
				}
			}
			if x.Next() != n+1 || x.Held() > size-1 || x.Held() != len(first)-n {
				t.Fatalf("seed %d: %d is awaited, %d are held", seed, x.Next(), x.Held())
			}
		}
		if n < 500 {
			t.Errorf("seed %d: just %d were told", seed, n)
		}
	}
}
