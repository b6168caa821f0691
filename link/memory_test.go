package link_test

import (
	"bytes"
	"runtime"
	"testing"
	"weak"

	"satchel/api"
	"satchel/link"
)

// What is handed in may be written over at once, and is not written to.
func TestNothingHandedInIsKept(t *testing.T) {
	for kind, l := range bothKinds(t, 8) {
		for n := 1; n <= 3; n++ {
			b := roomy(body(n))
			was := bytes.Clone(b[:cap(b)])
			wantSend(t, l, b, api.OK)
			if !bytes.Equal(b[:cap(b)], was) {
				t.Errorf("%s: Send writes to what is handed in", kind)
			}
			spoil(b)
		}
		for _, n := range []int{3, 2, 2, 9, 10} {
			b := roomy(put(t, data(5, 9, n, 0, body(n))))
			was := bytes.Clone(b[:cap(b)])
			wantBytes(t, l, b, 0, api.OK)
			if !bytes.Equal(b[:cap(b)], was) {
				t.Errorf("%s: Receive writes to what is handed in", kind)
			}
			spoil(b)
		}
		b := roomy(put(t, data(5, 9, 1, 0, body(1))))
		told, err := l.Receive(b, 0)
		spoil(b)
		if err != api.OK || len(told) != 3 || !bytes.Equal(told[0], body(1)) || !bytes.Equal(told[1], body(2)) || !bytes.Equal(told[2], body(3)) {
			t.Errorf("%s: %q, %v", kind, told, err)
		}
		wantTick(t, l, 0, data(5, 9, 1, 3, body(1)), data(5, 9, 2, 3, body(2)), data(5, 9, 3, 3, body(3)))
	}
}

// All that is sent, and all that comes, may be handed in in one and the same memory.
func TestOneMemory(t *testing.T) {
	for _, l := range bothKinds(t, 64) {
		b := make([]byte, 0, 2000)
		var want []api.Frame
		for n := 1; n <= 64; n++ {
			wantSend(t, l, append(b, body(n)...), api.OK)
			want = append(want, data(5, 9, n, 64, body(n)))
		}
		var told [][]byte
		for n := 64; n >= 1; n-- {
			l, err := l.Receive(append(b, put(t, data(5, 9, n, 0, body(n)))...), 0)
			told = append(told, l...)
			if err != api.OK {
				t.Fatal(n, err)
			}
		}
		clear(b[:cap(b)])
		for i, x := range told {
			if !bytes.Equal(x, body(i+1)) {
				t.Errorf("%d: %q", i+1, x)
			}
		}
		wantTick(t, l, 0, want...)
		if len(told) != 64 {
			t.Error(len(told))
		}
	}
}

// grow writes over all of what was told, and lets each of it grow.
func grow(l [][]byte) {
	for i := range l {
		spoil(l[i])
		l[i] = append(l[i], body(99)...)
	}
	all := l[:cap(l)]
	for i := range all {
		all[i] = body(98)
	}
}

// Nobody else has what is told: frames may be written over, and those that go again are as they were.
func TestFramesAreNotShared(t *testing.T) {
	for kind, l := range bothKinds(t, 4) {
		for n := 1; n <= 4; n++ {
			wantSend(t, l, body(n), api.OK)
		}
		for _, now := range []int{0, 8, 24, 56} {
			frames := l.Tick(now)
			for i, b := range frames {
				if f := read(t, [][]byte{b})[0]; !same(f, data(5, 9, i+1, 0, body(i+1))) {
					t.Errorf("%s, at %d: %v", kind, now, f)
				}
				spoil(b)
				frames[i] = append(b, 1, 2, 3)
			}
			grow(frames)
			if len(frames) != 4 {
				t.Error(kind, now, len(frames))
			}
		}
	}
}

// Nobody else has the bodies that are told: not one another, and not the end.
func TestBodiesAreNotShared(t *testing.T) {
	for kind, l := range bothKinds(t, 8) {
		wantFrame(t, l, data(5, 9, 5, 0, body(5)), 0, api.OK)
		wantFrame(t, l, data(5, 9, 3, 0, body(3)), 0, api.OK)
		wantFrame(t, l, data(5, 9, 2, 0, body(2)), 0, api.OK)
		told, err := l.Receive(put(t, data(5, 9, 1, 0, body(1))), 0)
		if err != api.OK || len(told) != 3 {
			t.Fatal(kind, told, err)
		}
		for i := range told {
			spoil(told[i])
			told[i] = append(told[i], body(99)...)
			for k := i + 1; k < 3; k++ {
				if !bytes.Equal(told[k], body(k+1)) {
					t.Errorf("%s: %d: %q, behind what was done to %d", kind, k+1, told[k], i+1)
				}
			}
		}
		grow(told)
		wantFrame(t, l, data(5, 9, 4, 0, body(4)), 0, api.OK, body(4), body(5))
	}
}

// The spare room of what is told has nothing in it.
func TestSpareRoomIsNew(t *testing.T) {
	isNew := func(what string, l [][]byte) {
		t.Helper()
		for _, b := range l {
			if len(bytes.Trim(b[len(b):cap(b)], "\x00")) > 0 {
				t.Errorf("%s: %v in the spare room", what, b[len(b):cap(b)])
			}
		}
		for _, b := range l[len(l):cap(l)] {
			if b != nil {
				t.Errorf("%s: %v in the spare room of the list", what, b)
			}
		}
	}
	for kind, l := range bothKinds(t, 8) {
		for n := 1; n <= 7; n++ {
			wantSend(t, l, roomy(body(n)), api.OK)
		}
		if kind == "daemon" {
			for n := 1; n <= 5; n++ {
				l.Receive(put(t, ack(40+n, 9, 0)), 0)
			}
		}
		for n := 7; n >= 1; n-- {
			told, _ := l.Receive(roomy(put(t, data(5, 9, n, 0, body(n)))), 0)
			isNew(kind+"'s bodies", told)
		}
		isNew(kind+"'s frames", l.Tick(0))
		wantFrame(t, l, data(5, 9, 7, 7, body(7)), 0, api.OK)
		isNew(kind+"'s Ack", l.Tick(1))
	}
	isNew("a Syn", newAgent(t, 5, 4).Tick(0))
}

// Ends know nothing of one another.
func TestEndsAreNotShared(t *testing.T) {
	d, e := daemonUp(t, 5, 9, 4), daemonUp(t, 5, 9, 4)
	wantFrame(t, d, syn(3), 0, api.ErrMissing)
	wantFrame(t, d, data(5, 9, 1, 0, body(1)), 0, api.OK, body(1))
	wantSend(t, d, body(11), api.OK)
	wantIs(t, e, standing{2, 5, 9, 0, 0})
	wantTick(t, e, 0)
	wantTick(t, d, 0, reset(3, 9), data(5, 9, 1, 1, body(11)))
}

// placeOfTold takes a body, and tells just where it lies as it is told.
func placeOfTold(t *testing.T, l *link.Link) weak.Pointer[byte] {
	t.Helper()
	told, err := l.Receive(put(t, data(5, 9, 1, 0, make([]byte, 1000))), 0)
	if err != api.OK || len(told) != 1 {
		t.Fatal(told, err)
	}
	return weak.Make(&told[0][0])
}

// What was told is not kept, though the end is.
func TestWhatWasToldIsNotKept(t *testing.T) {
	for kind, l := range bothKinds(t, 4) {
		p := placeOfTold(t, l)
		runtime.GC()
		if p.Value() != nil {
			t.Errorf("%s: a body is kept", kind)
		}
		wantIs(t, l, standing{2, 5, 9, 0, 1})
	}
}
