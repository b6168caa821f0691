package link_test

import (
	"bytes"
	"math/rand"
	"slices"
	"testing"

	"satchel/api"
	"satchel/frame"
	"satchel/link"
)

// outgoing is a body that was sent, and when it is due again.
type outgoing struct {
	seq, sent, due int
	b              []byte
}

// telling is an end as the document's words say it, told in another way: for one of whose packets none is acknowledged that was sent just once, so that its waits stay 8, 16, 32 and 60.
type telling struct {
	daemon                     bool
	state, session, boot, size int
	syn                        int // when it was sent last; -1: never
	welcome, owes              bool
	resets                     []int
	sent, told                 int
	way                        []outgoing
	came                       map[int][]byte
	now                        int
}

func newTelling(daemon bool, n, size int) *telling {
	if daemon {
		return &telling{daemon: true, state: 3, boot: n, size: size}
	}
	return &telling{state: 1, session: n, size: size, syn: -1}
}

func (m *telling) up() {
	m.state, m.owes, m.sent, m.told, m.way, m.came, m.now = 2, false, 0, 0, nil, map[int][]byte{}, 0
}

func (m *telling) standing() standing {
	if m.state != 2 {
		return standing{m.state, m.session, m.boot, 0, 0}
	}
	return standing{2, m.session, m.boot, len(m.way), m.told}
}

func (m *telling) send(b []byte) api.Errno {
	if m.state != 2 {
		return api.ErrState
	}
	if len(b) > 1400 {
		return api.ErrLong
	}
	if len(m.way) == m.size {
		return api.ErrFull
	}
	m.sent++
	m.way = append(m.way, outgoing{seq: m.sent, b: bytes.Clone(b)})
	return api.OK
}

func (m *telling) receive(b []byte, now int) ([][]byte, api.Errno) {
	if now < 0 || now > maxID {
		return nil, api.ErrArg
	}
	if !m.daemon && m.state == 3 {
		return nil, api.ErrState
	}
	f, err := frame.Read(b)
	if err != api.OK {
		return nil, err
	}
	if m.daemon {
		return m.daemonTakes(f, now)
	}
	return m.agentTakes(f, now)
}

func (m *telling) agentTakes(f api.Frame, now int) ([][]byte, api.Errno) {
	mine := f.Session == m.session
	switch {
	case mine && f.Type == 5:
		m.state = 3
		return nil, api.OK
	case mine && f.Type == 2 && m.state == 1:
		m.boot = f.Boot
		m.up()
		return nil, api.OK
	case mine && f.Type == 2 && f.Boot == m.boot:
		return nil, api.OK
	case mine && (f.Type == 3 || f.Type == 4) && m.state == 2 && f.Boot == m.boot:
		return m.news(f, now)
	}
	return nil, api.ErrMissing
}

func (m *telling) daemonTakes(f api.Frame, now int) ([][]byte, api.Errno) {
	switch {
	case f.Type == 2 || f.Type == 5:
		return nil, api.ErrMissing
	case f.Type == 1 && f.Session >= m.session:
		if f.Session > m.session {
			m.session = f.Session
			m.up()
		}
		m.welcome = true
		return nil, api.OK
	case f.Type != 1 && m.state == 2 && f.Session == m.session && f.Boot == m.boot:
		return m.news(f, now)
	}
	if !slices.Contains(m.resets, f.Session) && len(m.resets) < 8 {
		m.resets = append(m.resets, f.Session)
	}
	return nil, api.ErrMissing
}

func (m *telling) news(f api.Frame, now int) ([][]byte, api.Errno) {
	if f.Ack > m.sent {
		return nil, api.ErrRange
	}
	m.now = max(m.now, now)
	m.way = slices.DeleteFunc(m.way, func(o outgoing) bool { return o.seq <= f.Ack })
	if f.Type == 4 {
		return nil, api.OK
	}
	m.owes = true
	if _, is := m.came[f.Seq]; !is && f.Seq <= m.told+m.size && f.Seq < maxID {
		m.came[f.Seq] = f.Body
	}
	var l [][]byte
	for {
		b, is := m.came[m.told+1]
		if !is {
			return l, api.OK
		}
		l = append(l, b)
		m.told++
	}
}

func (m *telling) tick(now int) []api.Frame {
	if now < 0 || now > maxID {
		return nil
	}
	var l []api.Frame
	if !m.daemon && m.state == 1 && (m.syn < 0 || now >= m.syn+8) {
		m.syn = now
		l = append(l, syn(m.session))
	}
	if m.welcome {
		l = append(l, welcome(m.session, m.boot))
	}
	for _, s := range m.resets {
		l = append(l, reset(s, m.boot))
	}
	m.welcome, m.resets = false, nil
	if m.state != 2 {
		return l
	}
	m.now = max(m.now, now)
	some := false
	for i := range m.way {
		o := &m.way[i]
		if o.sent == 0 || m.now >= o.due {
			o.due = m.now + []int{8, 16, 32, 60}[min(o.sent, 3)]
			o.sent++
			some = true
			l = append(l, data(m.session, m.boot, o.seq, m.told, o.b))
		}
	}
	if !some && m.owes {
		l = append(l, ack(m.session, m.boot, m.told))
	}
	m.owes = false
	return l
}

// both is an end and its telling, to which the same is done.
type both struct {
	t    *testing.T
	l    *link.Link
	m    *telling
	r    *rand.Rand
	errs map[api.Errno]int // how often each was answered
}

// near tells a number that is mostly the given one, and at times another one.
func (x both) near(n, least int) int {
	if x.r.Intn(4) > 0 {
		return max(n, least)
	}
	return min(maxID, max(least, n-2+x.r.Intn(5)))
}

// frame tells a frame that an end may be handed.
func (x both) frame() api.Frame {
	session, boot := x.near(x.m.session, 1), x.near(x.m.boot, 1)
	if x.r.Intn(40) == 0 {
		session = []int{1, maxID, 1 + x.r.Intn(20)}[x.r.Intn(3)]
	}
	switch x.r.Intn(12) {
	case 0:
		return syn(session)
	case 1, 2:
		return welcome(session, boot)
	case 3:
		if x.m.daemon || x.r.Intn(30) == 0 {
			return reset(session, boot)
		}
	case 4, 5, 6:
		return ack(session, boot, x.ack())
	}
	seq := x.m.told + 1 + x.r.Intn(x.m.size+2)
	switch x.r.Intn(9) {
	case 0, 1, 2, 3:
		seq = x.m.told + 1
	case 4:
		seq = 1 + x.r.Intn(x.m.told+1)
	case 5:
		seq = maxID - x.r.Intn(2)
	}
	b := make([]byte, x.r.Intn(4))
	x.r.Read(b)
	return data(session, boot, seq, x.ack(), b)
}

// ack tells a number that is acknowledged. Where it is not too great, just packets go by it that were sent more than once, or never.
func (x both) ack() int {
	n := 0
	for n < len(x.m.way) && x.m.way[n].sent != 1 {
		n++
	}
	first := x.m.sent - len(x.m.way)
	if x.r.Intn(12) == 0 {
		return x.m.sent + 1 + x.r.Intn(2)
	}
	return max(0, first+x.r.Intn(n+1)-x.r.Intn(2))
}

// bytes tells those of a frame, at times with something wrong.
func (x both) bytes() []byte {
	b := put(x.t, x.frame())
	switch x.r.Intn(30) {
	case 0:
		b[x.r.Intn(len(b))] ^= 1 << x.r.Intn(8)
	case 1:
		b = b[:x.r.Intn(len(b))]
	case 2:
		b = append(b, make([]byte, x.r.Intn(1500))...)
	}
	return b
}

// do does one thing at a time, and says whether both answered the same.
func (x both) do(now int) bool {
	if x.r.Intn(50) == 0 {
		now = notTimes[x.r.Intn(len(notTimes))]
	}
	switch x.r.Intn(6) {
	case 0:
		b := make([]byte, x.r.Intn(4))
		if x.r.Intn(30) == 0 {
			b = make([]byte, 1399+x.r.Intn(4))
		}
		err := x.l.Send(b)
		x.errs[err]++
		return err == x.m.send(b)
	case 1, 2:
		return slices.EqualFunc(read(x.t, x.l.Tick(now)), x.m.tick(now), same)
	}
	b := x.bytes()
	got, err := x.l.Receive(b, now)
	want, wanted := x.m.receive(b, now)
	x.errs[err]++
	return err == wanted && slices.EqualFunc(got, want, bytes.Equal)
}

// Whatever is sent, comes and passes, ends answer as the document's words say it.
func TestAsTheWordsSay(t *testing.T) {
	errs := map[api.Errno]int{}
	states := map[int]int{}
	told := 0
	for seed := range int64(900) {
		r := rand.New(rand.NewSource(seed))
		size := []int{1, 2, 3, 8, 64}[seed%5]
		n := []int{1, 3, 9, maxID - 3}[seed%4]
		x := both{t, nil, newTelling(seed%2 == 0, n, size), r, errs}
		if x.m.daemon {
			x.l = newDaemon(t, n, size)
		} else {
			x.l = newAgent(t, n, size)
		}
		now := 0
		for i := range 400 {
			if r.Intn(3) == 0 {
				now += r.Intn(12)
			}
			at := now
			if r.Intn(20) == 0 {
				at = r.Intn(now + 1)
			}
			if !x.do(at) || standingOf(x.l) != x.m.standing() {
				t.Fatalf("seed %d, the %d-th, at %d: it is not as the words say: %+v, %+v", seed, i, at, standingOf(x.l), x.m.standing())
			}
			states[x.l.State()]++
		}
		told += x.m.told
	}
	for _, e := range []api.Errno{api.OK, api.ErrArg, api.ErrLong, api.ErrBytes, api.ErrRange, api.ErrMissing, api.ErrFull, api.ErrState, api.ErrSum} {
		if errs[e] < 20 {
			t.Errorf("%v is answered %d times", e, errs[e])
		}
	}
	if len(errs) != 9 || len(states) != 3 || told < 4000 {
		t.Error(errs, states, told)
	}
}
