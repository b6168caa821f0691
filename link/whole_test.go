package link_test

import (
	"bytes"
	"math/rand"
	"testing"

	"satchel/api"
	"satchel/link"
)

// talk is what a session is of one boot; of it, what was sent and what was told each way.
type talk struct{ session, boot int }

// heard is what was sent by one end in a talk, and how much of it the other one told.
type heard struct {
	sent [][]byte
	told int
}

// pair is an agent's end and a daemon's, and a line each way on which frames are lost, doubled, put in another order, turned and kept.
type pair struct {
	t            *testing.T
	r            *rand.Rand
	a, d         *link.Link
	session      int
	boot, size   int
	toA, toD     [][]byte
	now          int
	fromA, fromD map[talk]*heard
	sent         int
}

func newPair(t *testing.T, seed int64) *pair {
	p := &pair{t: t, r: rand.New(rand.NewSource(seed)), session: 1, boot: 1, fromA: map[talk]*heard{}, fromD: map[talk]*heard{}}
	p.size = []int{1, 2, 4, 64}[p.r.Intn(4)]
	p.a, p.d = newAgent(t, 1, p.size), newDaemon(t, 1, p.size)
	return p
}

func talkOf(l *link.Link) talk { return talk{l.Session(), l.Boot()} }

// in tells what was heard in a talk.
func in(m map[talk]*heard, x talk) *heard {
	if m[x] == nil {
		m[x] = &heard{}
	}
	return m[x]
}

// send sends a body from an end.
func (p *pair) send(l *link.Link, from map[talk]*heard) {
	b := make([]byte, p.r.Intn(6))
	p.r.Read(b)
	if l.Send(b) == api.OK {
		h := in(from, talkOf(l))
		h.sent = append(h.sent, b)
		p.sent++
	}
}

// take takes bytes at an end, and says whether what it tells goes on with what the other end sent.
func (p *pair) take(l *link.Link, b []byte, from map[talk]*heard) {
	p.t.Helper()
	told, err := l.Receive(b, p.now)
	if err != api.OK && len(told) > 0 {
		p.t.Fatalf("%q beside %v", told, err)
	}
	h := in(from, talkOf(l))
	for _, b := range told {
		if h.told == len(h.sent) || !bytes.Equal(b, h.sent[h.told]) {
			p.t.Fatalf("in %v, behind %d of %d: %q", talkOf(l), h.told, len(h.sent), b)
		}
		h.told++
	}
	if l.State() == api.LinkUp && l.Got() != h.told {
		p.t.Fatalf("%d were told, and it says %d", h.told, l.Got())
	}
}

// spoiled does something to a line, and tells the bytes that come of it, if any do.
func (p *pair) spoiled(line *[][]byte) []byte {
	if len(*line) == 0 {
		return nil
	}
	at := 0
	if p.r.Intn(2) == 0 {
		at = p.r.Intn(len(*line))
	}
	b := (*line)[at]
	switch p.r.Intn(8) {
	case 0: // it stays, and comes again some time
		return b
	case 1: // it is lost
		b = nil
	case 2:
		turned := bytes.Clone(b)
		turned[p.r.Intn(len(b))] ^= 1 << p.r.Intn(8)
		return turned
	}
	*line = append((*line)[:at:at], (*line)[at+1:]...)
	return b
}

// step does one thing while the net is bad.
func (p *pair) step() {
	p.t.Helper()
	switch p.r.Intn(10) {
	case 0:
		p.send(p.a, p.fromA)
	case 1:
		p.send(p.d, p.fromD)
	case 2, 3:
		p.toD = append(p.toD, p.a.Tick(p.now)...)
	case 4, 5:
		p.toA = append(p.toA, p.d.Tick(p.now)...)
	case 6, 7:
		if b := p.spoiled(&p.toD); b != nil {
			p.take(p.d, b, p.fromA)
		}
	case 8:
		if b := p.spoiled(&p.toA); b != nil {
			p.take(p.a, b, p.fromD)
		}
	case 9:
		p.now += p.r.Intn(4)
	}
}

// calm lets ticks pass in which all comes.
func (p *pair) calm(ticks int) {
	p.t.Helper()
	for range ticks {
		p.now++
		p.toD = append(p.toD, p.a.Tick(p.now)...)
		for _, b := range p.toD {
			p.take(p.d, b, p.fromA)
		}
		p.toA = append(p.toA, p.d.Tick(p.now)...)
		for _, b := range p.toA {
			p.take(p.a, b, p.fromD)
		}
		p.toA, p.toD = nil, nil
	}
}

// anew begins the next session: the agent's end was lost, or is shut.
func (p *pair) anew() {
	p.session++
	p.a = newAgent(p.t, p.session, p.size)
}

// Whatever the net loses, doubles, puts in another order or turns: each end tells a beginning of what the other one sent, each body once, in order; and once but little is lost, all of it.
func TestOneSession(t *testing.T) {
	for seed := range int64(150) {
		p := newPair(t, seed)
		for range 2500 {
			p.step()
		}
		p.calm(150)
		if p.a.State() != api.LinkUp || p.d.State() != api.LinkUp || p.a.Open() != 0 || p.d.Open() != 0 {
			t.Fatalf("seed %d: %+v, %+v", seed, standingOf(p.a), standingOf(p.d))
		}
		there, back := in(p.fromA, talk{1, 1}), in(p.fromD, talk{1, 1})
		if there.told != len(there.sent) || back.told != len(back.sent) || there.told == 0 || back.told == 0 {
			t.Fatalf("seed %d: %d of %d were told, and back %d of %d", seed, there.told, len(there.sent), back.told, len(back.sent))
		}
	}
}

// Agents' ends and daemons' are lost and begin anew, while frames of elder sessions and elder boots are still on their way: none of these is ever told, nor does it take anything from what is.
func TestSessionsAndBoots(t *testing.T) {
	talks, resets := 0, 0
	for seed := range int64(150) {
		p := newPair(t, seed)
		for range 4000 {
			p.step()
			switch p.r.Intn(400) {
			case 0:
				p.anew()
			case 1:
				p.boot++
				p.d = newDaemon(t, p.boot, p.size)
			}
			if p.a.State() == api.LinkShut {
				resets++
				p.anew()
			}
		}
		talks += len(p.fromA)
		p.toA, p.toD = nil, nil
		for p.calm(60); p.a.State() == api.LinkShut; p.calm(60) {
			p.anew()
		}
		for range 5 {
			p.send(p.a, p.fromA)
			p.send(p.d, p.fromD)
		}
		p.calm(150)
		x := talkOf(p.a)
		there, back := in(p.fromA, x), in(p.fromD, x)
		if p.a.State() != api.LinkUp || x != talkOf(p.d) || there.told != len(there.sent) || back.told != len(back.sent) || there.told == 0 || back.told == 0 {
			t.Fatalf("seed %d: %+v, %+v: %d of %d were told, and back %d of %d", seed, standingOf(p.a), standingOf(p.d), there.told, len(there.sent), back.told, len(back.sent))
		}
	}
	if talks < 1000 || resets < 500 {
		t.Errorf("%d talks, %d resets", talks, resets)
	}
}

// Of each body and of each answer the first so many frames are lost: all that is sent comes nonetheless.
func TestFirstFramesAreLost(t *testing.T) {
	for lost := range 12 {
		p := newPair(t, 1)
		p.size = 4
		p.a, p.d = newAgent(t, 1, 4), newDaemon(t, 1, 4)
		left := map[[2]int]int{} // of which type, of which number, how many were lost
		passes := func(b []byte) bool {
			f := read(t, [][]byte{b})[0]
			left[[2]int{f.Type, f.Seq}]++
			return left[[2]int{f.Type, f.Seq}] > lost
		}
		for p.now = 0; p.now < 12000; p.now++ {
			if p.sent < 40 {
				p.send(p.a, p.fromA)
			}
			for _, b := range p.a.Tick(p.now) {
				if passes(b) {
					p.take(p.d, b, p.fromA)
				}
			}
			for _, b := range p.d.Tick(p.now) {
				if passes(b) {
					p.take(p.a, b, p.fromD)
				}
			}
		}
		if h := in(p.fromA, talk{1, 1}); h.told != 40 || p.a.Open() != 0 || p.d.Got() != 40 {
			t.Errorf("the first %d are lost: %d of %d were told, %d are under way", lost, h.told, len(h.sent), p.a.Open())
		}
	}
}
