package note_test

import (
	"bytes"
	"slices"
	"testing"

	"satchel/api"
	"satchel/note"
)

func TestExamplesOfBytes(t *testing.T) {
	for _, c := range []struct {
		x    api.Note
		want []byte
	}{
		{api.Note{Kind: api.NoteCommit}, []byte{5, 0, 0, 0}},
		{api.Note{Kind: api.NoteDone, N: []int{7}}, []byte{19, 1, 7, 0, 0}},
		{api.Note{Kind: api.NotePart, N: []int{300}, B: []byte{1, 2}}, []byte{2, 1, 130, 44, 0, 2, 1, 2}},
	} {
		if b, err := note.Bytes(c.x); err != api.OK || !bytes.Equal(b, c.want) {
			t.Errorf("kind %d: %v, %v", c.x.Kind, b, err)
		}
	}
}

func TestBytesAsTheWordsSay(t *testing.T) {
	for _, x := range aboutAll() {
		b, err := note.Bytes(x)
		if want := told(x); err != want || err != api.OK && len(b) > 0 {
			t.Errorf("kind %d of %d, %d, %d: %d bytes, %v; want %v", x.Kind, len(x.N), len(x.IDs), len(x.B), len(b), err, want)
		}
		if err == api.OK && !bytes.Equal(b, toldBytes(x)) {
			t.Errorf("kind %d of %d, %d, %d: %v; want %v", x.Kind, len(x.N), len(x.IDs), len(x.B), b, toldBytes(x))
		}
	}
}

func TestThereAndBack(t *testing.T) {
	for _, x := range good() {
		b, _ := note.Bytes(x)
		if again, f := note.Read(b); f != (api.Fault{}) || !same(again, x) {
			t.Errorf("kind %d of %d, %d, %d: %v, %v", x.Kind, len(x.N), len(x.IDs), len(x.B), again, f)
		}
	}
}

func TestBytesFitAFrame(t *testing.T) {
	for _, x := range good() {
		if b, _ := note.Bytes(x); len(b) > api.MaxBody {
			t.Errorf("kind %d: %d bytes", x.Kind, len(b))
		}
	}
}

// fill writes over all of a list, its spare room too.
func fill(b []byte) {
	for i := range b[:cap(b)] {
		b[:cap(b)][i] = 77
	}
}

func TestBytesAreNewMemory(t *testing.T) {
	for _, x := range good() {
		was := api.Note{Kind: x.Kind, N: slices.Clone(x.N), IDs: slices.Clone(x.IDs), B: slices.Clone(x.B)}
		b, _ := note.Bytes(x)
		again, _ := note.Bytes(x)
		fill(b)
		if !same(x, was) || !bytes.Equal(again, toldBytes(was)) {
			t.Errorf("kind %d is another one", x.Kind)
		}
		fill(x.B)
		if !bytes.Equal(again, toldBytes(was)) {
			t.Errorf("kind %d: its bytes were kept", x.Kind)
		}
	}
}
