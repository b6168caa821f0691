package inbox

import (
	"testing"

	"satchel/api"
)

// No test takes so many that the numbers end: this one begins where few are left. Behind the last one another is awaited, which never comes.
func TestTheEndOfNumbers(t *testing.T) {
	const last = 1<<31 - 2
	for _, size := range []int{1, 2, 3, 64} {
		x, _ := New(size)
		x.next = last - 2
		for n := last - 2; n <= last; n++ {
			for m := last; m > n; m-- {
				_, err := x.Take(m, []byte{byte(m)})
				if came := x.Has(m); came != (m < n+size) || came && err != api.OK && err != api.ErrThere || !came && err != api.ErrFull {
					t.Errorf("a size of %d, %d is awaited: %d: %v, %v", size, n, m, err, came)
				}
			}
			if x.Next() > n {
				continue
			}
			for _, m := range []int{last + 1, last + 2, 1 << 32} {
				if l, err := x.Take(m, nil); len(l) > 0 || err != api.ErrRange || x.Has(m) {
					t.Errorf("a size of %d, %d is awaited: %d: %v, %v", size, n, m, l, err)
				}
			}
			l, err := x.Take(n, []byte{byte(n)})
			if len(l) != x.Next()-n || err != api.OK {
				t.Errorf("a size of %d: %d: %v, %v", size, n, l, err)
			}
			for i, b := range l {
				if len(b) != 1 || b[0] != byte(n+i) {
					t.Errorf("a size of %d: %d: %v", size, n+i, b)
				}
			}
		}
		if x.Next() != last+1 || x.Held() != 0 || !x.Has(last) || x.Has(last+1) {
			t.Error(size, x.Next(), x.Held())
		}
		if l, err := x.Take(last, nil); len(l) > 0 || err != api.ErrThere {
			t.Error(size, l, err)
		}
		if l, err := x.Take(last+1, nil); len(l) > 0 || err != api.ErrRange {
			t.Error(size, l, err)
		}
	}
}
