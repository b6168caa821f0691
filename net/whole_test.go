package net_test

import (
	"bytes"
	"math/rand"
	"slices"
	"testing"

	"satchel/api"
	"satchel/net"
)

// telling is a net as the document's words say it, told in another way: a slice of datagrams, and for each two ends whether their link is cut.
type telling struct {
	l    []api.Datagram
	cut  [64][64]bool
	lost int
}

func (m *telling) has(i int) bool { return i >= 0 && i < len(m.l) }

func (m *telling) send(x api.Datagram) api.Errno {
	if x.From < 0 || x.From > 63 || x.To < 0 || x.To > 63 {
		return api.ErrArg
	}
	if len(x.B) > 1500 {
		return api.ErrLong
	}
	if m.cut[x.From][x.To] {
		m.lost++
		return api.OK
	}
	if len(m.l) == 2000 {
		return api.ErrFull
	}
	m.l = append(m.l, deep([]api.Datagram{x})...)
	return api.OK
}

func (m *telling) take(i int) (api.Datagram, api.Errno) {
	if !m.has(i) {
		return api.Datagram{}, api.ErrMissing
	}
	x := m.l[i]
	m.l = slices.Delete(m.l, i, i+1)
	return x, api.OK
}

func (m *telling) drop(i int) api.Errno {
	_, err := m.take(i)
	if err == api.OK {
		m.lost++
	}
	return err
}

func (m *telling) copy(i int) api.Errno {
	if !m.has(i) {
		return api.ErrMissing
	}
	if len(m.l) == 2000 {
		return api.ErrFull
	}
	m.l = append(m.l, deep(m.l[i:i+1])...)
	return api.OK
}

func (m *telling) turn(i, bit int) api.Errno {
	if !m.has(i) {
		return api.ErrMissing
	}
	if bit < 0 || bit > 8*len(m.l[i].B)-1 {
		return api.ErrRange
	}
	m.l[i].B[bit>>3] ^= byte(1 << (bit & 7))
	return api.OK
}

func (m *telling) swap(i, k int) api.Errno {
	if !m.has(i) || !m.has(k) {
		return api.ErrMissing
	}
	m.l[i], m.l[k] = m.l[k], m.l[i]
	return api.OK
}

func (m *telling) link(a, b int, is bool) api.Errno {
	if a < 0 || a > 63 || b < 0 || b > 63 {
		return api.ErrArg
	}
	m.cut[a][b], m.cut[b][a] = is, is
	return api.OK
}

// both is a net and its telling, to which the same is done.
type both struct {
	n *net.Net
	m *telling
	r *rand.Rand
}

func (x both) place() int { return x.r.Intn(len(x.m.l)+3) - 1 }

func (x both) end() int { return []int{0, 1, 2, 3, 62, 63, -1, 64}[x.r.Intn(6+x.r.Intn(3))] }

func (x both) datagram() api.Datagram {
	size := x.r.Intn(6)
	if x.r.Intn(20) == 0 {
		size = 1498 + x.r.Intn(5)
	}
	b := make([]byte, size)
	x.r.Read(b)
	return api.Datagram{From: x.end(), To: x.end(), B: b}
}

// do does one thing, and tells what it was, and what both answered.
func (x both) do() (what string, got, want api.Errno) {
	switch k := x.r.Intn(14); k {
	case 0, 1, 2, 3, 4:
		d := x.datagram()
		return "Send", x.n.Send(d), x.m.send(d)
	case 5, 6:
		i := x.place()
		d, got := x.n.Take(i)
		e, want := x.m.take(i)
		if !same(d, e) {
			return "Take of another one", -1, want
		}
		return "Take", got, want
	case 7:
		i := x.place()
		return "Drop", x.n.Drop(i), x.m.drop(i)
	case 8:
		i := x.place()
		return "Copy", x.n.Copy(i), x.m.copy(i)
	case 9, 10:
		i, bit := x.place(), x.r.Intn(52)-2
		return "Turn", x.n.Turn(i, bit), x.m.turn(i, bit)
	case 11, 12:
		i, k := x.place(), x.place()
		return "Swap", x.n.Swap(i, k), x.m.swap(i, k)
	}
	a, b, is := x.end(), x.end(), x.r.Intn(3) == 0
	return "Cut", x.n.Cut(a, b, is), x.m.link(a, b, is)
}

// Whatever is done, in whatever order, is told as the document's words say it.
func TestAsTheWordsSay(t *testing.T) {
	counts := map[api.Errno]int{}
	for seed := range int64(60) {
		x := both{net.New(), &telling{}, rand.New(rand.NewSource(seed))}
		for range 400 {
			what, got, want := x.do()
			counts[want]++
			wantErr(t, what, got, want)
			wantHas(t, what, x.n, x.m.l, x.m.lost)
			if t.Failed() {
				t.Fatalf("seed %d", seed)
			}
		}
	}
	for _, err := range []api.Errno{api.OK, api.ErrArg, api.ErrLong, api.ErrRange, api.ErrMissing} {
		if counts[err] < 100 {
			t.Errorf("%v: just %d", err, counts[err])
		}
	}
}

// Likewise about the edge of what there is room for.
func TestAsTheWordsSayWhileItIsFull(t *testing.T) {
	full := 0
	for seed := range int64(4) {
		x := both{net.New(), &telling{}, rand.New(rand.NewSource(seed))}
		for _, d := range numbered(1998) {
			x.n.Send(d)
			x.m.send(d)
		}
		for range 300 {
			what, got, want := x.do()
			if want == api.ErrFull {
				full++
			}
			wantErr(t, what, got, want)
			wantHas(t, what, x.n, x.m.l, x.m.lost)
			if t.Failed() {
				t.Fatalf("seed %d", seed)
			}
		}
	}
	if full < 50 {
		t.Errorf("just %d times full", full)
	}
}

// fate is what became of one that is on its way: which of those that were sent it is, and which of its bits were turned.
type fate struct {
	number int
	turned [8]byte
}

// Nothing comes of itself: what was sent, or copied, was taken, or lost, or is on its way, as it was sent, but for the bits that were turned.
func TestNothingComesOfItself(t *testing.T) {
	r := rand.New(rand.NewSource(4))
	var sent []api.Datagram
	var way []fate
	n := net.New()
	came, went, lost := 0, 0, 0
	check := func(x api.Datagram, f fate) {
		want := deep(sent[f.number : f.number+1])[0]
		for i := range want.B {
			want.B[i] ^= f.turned[i]
		}
		if !same(x, want) {
			t.Fatalf("%v; want %v", x, want)
		}
	}
	for range 5000 {
		i := r.Intn(len(way) + 1)
		switch k := r.Intn(6); {
		case k < 2 || i == len(way):
			x := api.Datagram{From: r.Intn(64), To: r.Intn(64), B: make([]byte, 8)}
			r.Read(x.B)
			wantErr(t, "Send", n.Send(x), api.OK)
			way = append(way, fate{number: len(sent)})
			sent = append(sent, x)
			came++
		case k == 2:
			x, err := n.Take(i)
			wantErr(t, "Take", err, api.OK)
			check(x, way[i])
			way = slices.Delete(way, i, i+1)
			went++
		case k == 3 && r.Intn(2) == 0:
			wantErr(t, "Drop", n.Drop(i), api.OK)
			way = slices.Delete(way, i, i+1)
			lost++
		case k == 3 && r.Intn(2) == 0:
			wantErr(t, "Copy", n.Copy(i), api.OK)
			way = append(way, way[i])
			came++
		case k == 4:
			bit := r.Intn(64)
			wantErr(t, "Turn", n.Turn(i, bit), api.OK)
			way[i].turned[bit/8] ^= 1 << (bit % 8)
		case k == 5:
			j := r.Intn(len(way))
			wantErr(t, "Swap", n.Swap(i, j), api.OK)
			way[i], way[j] = way[j], way[i]
		}
		if n.Lost() != lost || len(n.Waiting()) != came-went-lost {
			t.Fatalf("%d came, %d were taken, %d were lost: %d on their way, %d lost", came, went, lost, len(n.Waiting()), n.Lost())
		}
	}
	for i, x := range n.Waiting() {
		check(x, way[i])
	}
}

// What was asked for, and what was refused, leaves a net as it was.
func TestAskingChangesNothing(t *testing.T) {
	n := netOf(t, numbered(3)...)
	for range 3 {
		wantHas(t, "asked again", n, numbered(3), 0)
		n.Take(3)
		n.Drop(-1)
		n.Copy(3)
		n.Turn(0, 24)
		n.Swap(0, 3)
		n.Swap(3, 0)
		n.Cut(0, -1, true)
		n.Send(one(0, 64))
	}
	if !bytes.Equal(n.Waiting()[2].B, []byte{2, 0, 0}) {
		t.Error(n.Waiting())
	}
}
