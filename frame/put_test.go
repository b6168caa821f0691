package frame_test

import (
	"bytes"
	"slices"
	"testing"

	"satchel/api"
	"satchel/frame"
)

// wantPut holds what Put tells against the bytes that it should.
func wantPut(t *testing.T, f api.Frame, want []byte) {
	t.Helper()
	if b, err := frame.Put(f); err != api.OK || !bytes.Equal(b, want) {
		t.Errorf("Put of %v: %v, %v; want %v", f, b, err, want)
	}
}

func TestPutOfExamples(t *testing.T) {
	syn := []byte{83, 75, 1, 1, 0, 0, 0, 7, 0, 0, 0, 0, 0, 0, 0, 0, 0, 0, 0, 0, 0, 0}
	wantPut(t, api.Frame{Type: api.FrameSyn, Session: 7}, sumBehind(syn))
	data := []byte{83, 75, 1, 3, 1, 2, 3, 4, 5, 6, 7, 8, 9, 10, 11, 12, 13, 14, 15, 16, 0, 3, 17, 18, 19}
	wantPut(t, api.Frame{Type: api.FrameData, Session: 0x01020304, Boot: 0x05060708, Seq: 0x090a0b0c, Ack: 0x0d0e0f10, Body: []byte{17, 18, 19}}, sumBehind(data))
	most := slices.Concat([]byte{83, 75, 1, 3}, slices.Repeat([]byte{127, 255, 255, 255}, 4), []byte{5, 120}, make([]byte, 1400))
	wantPut(t, api.Frame{Type: api.FrameData, Session: maxID, Boot: maxID, Seq: maxID, Ack: maxID, Body: make([]byte, 1400)}, sumBehind(most))
}

// The sum of a Syn, as it is known from elsewhere.
func TestPutLaysTheSumBehind(t *testing.T) {
	b, _ := frame.Put(api.Frame{Type: api.FrameSyn, Session: 7})
	if len(b) != 26 || !bytes.Equal(b[22:], []byte{70, 7, 97, 113}) {
		t.Error(b)
	}
}

func TestPutAsTheWordsSay(t *testing.T) {
	aboutAll(aboutTypes, func(f api.Frame) {
		b, err := frame.Put(f)
		if want := wrong(f); err != want || err != api.OK && len(b) > 0 {
			t.Errorf("%v of %d bytes: %d bytes, %v; want %v", f, len(f.Body), len(b), err, want)
		}
		if err == api.OK && !bytes.Equal(b, bytesOf(f)) {
			t.Errorf("%v: %v; want %v", f, b, bytesOf(f))
		}
	})
}

func TestPutOfGoodOnes(t *testing.T) {
	for _, f := range good() {
		wantPut(t, f, bytesOf(f))
		if b, _ := frame.Put(f); len(b) != 26+len(f.Body) {
			t.Errorf("%v: %d bytes", f, len(b))
		}
	}
}

func TestPutOfEachLength(t *testing.T) {
	for n := range 1401 {
		f := api.Frame{Type: api.FrameData, Session: 1, Boot: 2, Seq: 3, Ack: 4, Body: someBytes(n)}
		wantPut(t, f, bytesOf(f))
	}
}

func TestPutIsNewMemory(t *testing.T) {
	for _, f := range good() {
		f.Body = roomy(f.Body)
		was := slices.Clone(f.Body[:cap(f.Body)])
		b, _ := frame.Put(f)
		again, _ := frame.Put(f)
		want := bytesOf(f)
		if !bytes.Equal(f.Body[:cap(f.Body)], was) {
			t.Fatalf("%v: Put changed the body, or what is behind it", f)
		}
		spoil(b)
		if !bytes.Equal(f.Body[:cap(f.Body)], was) || !bytes.Equal(again, want) {
			t.Fatalf("%v: an answer shares its bytes", f)
		}
		spoil(f.Body)
		if !bytes.Equal(again, want) {
			t.Fatalf("%v: its body was kept", f)
		}
	}
}

// Different frames are different bytes: no two good ones share theirs.
func TestPutTellsFramesApart(t *testing.T) {
	seen := map[string]api.Frame{}
	for _, f := range good() {
		b, _ := frame.Put(f)
		if other, is := seen[string(b)]; is && !same(other, f) {
			t.Errorf("%v and %v", f, other)
		}
		seen[string(b)] = f
	}
}
