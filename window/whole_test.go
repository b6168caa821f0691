package window_test

import (
	"bytes"
	"math"
	"math/rand"
	"slices"
	"testing"

	"satchel/api"
	"satchel/window"
)

// sending is a time at which a packet was sent, and how long is waited for its answer.
type sending struct{ at, wait int }

// telling is a window as the document's words say it, told in another way: all bodies ever pushed, and each time that they were sent.
type telling struct {
	size, gone, now int
	bodies          [][]byte
	sendings        [][]sending
	mean, spread    float64
}

func newTelling(size int) *telling { return &telling{size: size, mean: 4, spread: 1} }

func (m *telling) open() int { return len(m.bodies) - m.gone }

func (m *telling) pass(now int) bool {
	if now < 0 || now > latest {
		return false
	}
	if now > m.now {
		m.now = now
	}
	return true
}

func (m *telling) push(b []byte) (int, api.Errno) {
	if m.open() == m.size {
		return 0, api.ErrFull
	}
	m.bodies = append(m.bodies, bytes.Clone(b))
	m.sendings = append(m.sendings, nil)
	return len(m.bodies), api.OK
}

func (m *telling) ack(n, now int) (int, api.Errno) {
	if n < 0 || n > len(m.bodies) || !m.pass(now) {
		return 0, api.ErrRange
	}
	was := m.gone
	for ; m.gone < n; m.gone++ {
		if s := m.sendings[m.gone]; len(s) == 1 {
			d := float64(m.now - s[0].at)
			m.spread += float64(0.25 * (math.Abs(d-m.mean) - m.spread))
			m.mean += float64(0.125 * (d - m.mean))
		}
	}
	return m.gone - was, api.OK
}

// wait tells how long is waited for an answer to what is sent for the k-th time.
func (m *telling) wait(k int) int {
	first := min(max(math.Ceil(m.mean+float64(4*m.spread)), 2), 60)
	return int(min(first*math.Pow(2, float64(k-1)), 60))
}

func (m *telling) due(now int) []api.Packet {
	var l []api.Packet
	if !m.pass(now) {
		return nil
	}
	for i := m.gone; i < len(m.bodies); i++ {
		s := m.sendings[i]
		if len(s) == 0 || m.now-s[len(s)-1].at >= s[len(s)-1].wait {
			m.sendings[i] = append(s, sending{m.now, m.wait(len(s) + 1)})
			l = append(l, api.Packet{Seq: i + 1, Body: m.bodies[i]})
		}
	}
	return l
}

func (m *telling) when() (int, bool) {
	var l []int
	for _, s := range m.sendings[m.gone:] {
		if len(s) == 0 {
			return m.now, true
		}
		l = append(l, s[len(s)-1].at+s[len(s)-1].wait)
	}
	if len(l) == 0 {
		return 0, false
	}
	return slices.Min(l), true
}

// same tells whether two packets are: no bytes and empty ones are the same.
func same(a, b api.Packet) bool { return a.Seq == b.Seq && bytes.Equal(a.Body, b.Body) }

// both is a window and its telling, to which the same is done.
type both struct {
	w     *window.Window
	m     *telling
	r     *rand.Rand
	pace  int         // how many ticks mostly pass at most
	waits map[int]int // how often it was waited for so long
}

// time tells a time: mostly one a little further on, now and then one that runs back, or none.
func (x both) time() int {
	switch x.r.Intn(20) {
	case 0:
		return []int{-1, 1 << 31, math.MinInt, math.MaxInt}[x.r.Intn(4)]
	case 1:
		return x.r.Intn(x.m.now + 1)
	case 2:
		return x.m.now + x.r.Intn(10*x.pace+2)
	}
	return x.m.now + x.r.Intn(x.pace+1)
}

func (x both) number() int {
	if x.r.Intn(8) == 0 {
		return []int{-1, 0, len(x.m.bodies), len(x.m.bodies) + 1}[x.r.Intn(4)]
	}
	return x.m.gone + x.r.Intn(min(x.m.open(), 3)+1)
}

// do does one thing, and says whether both answered the same.
func (x both) do() (string, bool) {
	switch k := x.r.Intn(10); {
	case k < 3:
		b := make([]byte, x.r.Intn(5))
		x.r.Read(b)
		got, err := x.w.Push(b)
		want, wanted := x.m.push(b)
		return "Push", got == want && err == wanted
	case k < 5:
		n, now := x.number(), x.time()
		got, err := x.w.Ack(n, now)
		want, wanted := x.m.ack(n, now)
		return "Ack", got == want && err == wanted
	}
	now := x.time()
	got, want := x.w.Due(now), x.m.due(now)
	for _, p := range want {
		s := x.m.sendings[p.Seq-1]
		x.waits[s[len(s)-1].wait]++
	}
	return "Due", slices.EqualFunc(got, want, same)
}

// alike says whether a window tells of itself what its telling does.
func (x both) alike() bool {
	at, is := x.w.When()
	want, wanted := x.m.when()
	mean, spread := x.w.Times()
	return at == want && is == wanted && mean == x.m.mean && spread == x.m.spread && x.w.Open() == x.m.open() && x.w.Last() == len(x.m.bodies)
}

// Whatever is done, in whatever order, is told as the document's words say it; each wait from the least to the most is among it.
func TestAsTheWordsSay(t *testing.T) {
	waits := map[int]int{}
	for seed := range int64(300) {
		size := []int{1, 2, 3, 5, 8, 63, 64}[seed%7]
		x := both{newWindow(t, size), newTelling(size), rand.New(rand.NewSource(seed)), int(seed / 7 % 8), waits}
		for i := range 500 {
			if what, is := x.do(); !is || !x.alike() {
				t.Fatalf("seed %d, the %d-th: %s is not as the words say", seed, i, what)
			}
		}
	}
	for wait := range 70 {
		if is := waits[wait] > 0; is != (wait >= 2 && wait <= 60) {
			t.Errorf("it was waited %d ticks %d times", wait, waits[wait])
		}
	}
}

// Likewise about the end of time.
func TestAsTheWordsSayAtTheEndOfTime(t *testing.T) {
	for seed := range int64(40) {
		x := both{newWindow(t, 4), newTelling(4), rand.New(rand.NewSource(seed)), 5, map[int]int{}}
		x.w.Due(latest - 100)
		x.m.due(latest - 100)
		for i := range 200 {
			if what, is := x.do(); !is || !x.alike() {
				t.Fatalf("seed %d, the %d-th: %s is not as the words say", seed, i, what)
			}
		}
		if x.m.now < latest-20 {
			t.Errorf("seed %d: just at %d", seed, x.m.now)
		}
	}
}

// Each is due at once, and again, at least 2 and at most 60 ticks from each time that it is sent, until it is acknowledged; from then on never. Never more are under way than the size says.
func TestEachIsSentTillItIsAcknowledged(t *testing.T) {
	for seed := range int64(60) {
		r := rand.New(rand.NewSource(seed))
		size := 1 + r.Intn(6)
		w := newWindow(t, size)
		last := map[int]int{} // of those that were sent: when last
		pushed, gone := 0, 0
		for now := range 1500 {
			if _, err := w.Push(nil); err == api.OK {
				pushed++
			}
			if r.Intn(25) == 0 {
				gone += r.Intn(pushed - gone + 1)
				w.Ack(gone, now)
			}
			sent := map[int]bool{}
			for _, p := range w.Due(now) {
				at, again := last[p.Seq]
				if sent[p.Seq] || p.Seq <= gone || p.Seq > pushed || again && now-at < 2 {
					t.Fatalf("seed %d: %d at %d, behind %d", seed, p.Seq, now, at)
				}
				sent[p.Seq], last[p.Seq] = true, now
			}
			for n := gone + 1; n <= pushed; n++ {
				if at, was := last[n]; !was || now-at >= 60 {
					t.Fatalf("seed %d: %d is not sent at %d, and was at %d", seed, n, now, at)
				}
			}
			if w.Open() > size || w.Open() != pushed-gone {
				t.Fatalf("seed %d: %d under way, of %d", seed, w.Open(), size)
			}
		}
	}
}
