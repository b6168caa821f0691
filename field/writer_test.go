package field_test

import (
	"bytes"
	"math"
	"strings"
	"testing"

	"satchel/api"
	"satchel/field"
)

// numbers are numbers and what they are as bytes, by rising numbers: the edges of each size.
var numbers = []struct {
	n int
	b []byte
}{
	{0, []byte{0}},
	{1, []byte{1}},
	{127, []byte{127}},
	{128, []byte{129, 0}},
	{129, []byte{129, 1}},
	{255, []byte{129, 127}},
	{256, []byte{130, 0}},
	{300, []byte{130, 44}},
	{1<<14 - 1, []byte{255, 127}},
	{1 << 14, []byte{129, 128, 0}},
	{1<<21 - 1, []byte{255, 255, 127}},
	{1 << 21, []byte{129, 128, 128, 0}},
	{1<<28 - 1, []byte{255, 255, 255, 127}},
	{1 << 28, []byte{129, 128, 128, 128, 0}},
	{api.MaxID - 1, []byte{135, 255, 255, 255, 126}},
	{api.MaxID, []byte{135, 255, 255, 255, 127}},
}

var noNumbers = []int{-1, -2, -128, -api.MaxID, math.MinInt32, math.MinInt, api.MaxID + 1, api.MaxID + 2, 1 << 35, math.MaxInt}

// written tells what a writer tells behind some writing.
func written(write func(w *field.Writer)) ([]byte, api.Errno) {
	w := field.New()
	write(w)
	return w.Out()
}

func wantOut(t *testing.T, what string, w *field.Writer, want ...byte) {
	t.Helper()
	b, err := w.Out()
	if err != api.OK || !bytes.Equal(b, want) {
		t.Errorf("%s: %v, %v; want %v", what, b, err, want)
	}
}

func TestNothingIsWritten(t *testing.T) {
	wantOut(t, "a new writer", field.New())
}

func TestIntAndSize(t *testing.T) {
	for _, x := range numbers {
		w := field.New()
		w.Int(x.n)
		wantOut(t, "Int", w, x.b...)
		if n := field.Size(x.n); n != len(x.b) {
			t.Errorf("Size(%d): %d; want %d", x.n, n, len(x.b))
		}
	}
}

func TestIntOutOfRange(t *testing.T) {
	for _, n := range noNumbers {
		b, err := written(func(w *field.Writer) { w.Int(n) })
		if err != api.ErrRange || len(b) != 0 {
			t.Errorf("Int(%d): %v, %v", n, b, err)
		}
		if size := field.Size(n); size != 0 {
			t.Errorf("Size(%d): %d", n, size)
		}
	}
}

func TestErrRangeStays(t *testing.T) {
	w := field.New()
	w.Int(1)
	w.Int(-1)
	for range 2 {
		w.Int(2)
		w.Bytes([]byte{3})
		w.Text("d")
		w.ID(api.ID{5})
		w.Int(-1)
		if b, err := w.Out(); err != api.ErrRange || len(b) != 0 {
			t.Errorf("%v, %v", b, err)
		}
	}
}

func TestBytesAndText(t *testing.T) {
	for _, n := range []int{0, 1, 2, 127, 128, 129, 16383, 16384, 1 << 18} {
		s := strings.Repeat("\xff\x00z", n/3+1)[:n]
		want := append(numberBytes(n), s...)
		w := field.New()
		w.Text(s)
		wantOut(t, "Text", w, want...)
		w = field.New()
		w.Bytes([]byte(s))
		wantOut(t, "Bytes", w, want...)
	}
	w := field.New()
	w.Bytes(nil)
	w.Bytes([]byte{})
	wantOut(t, "Bytes of none", w, 0, 0)
}

// numberBytes tells what a small number is as bytes, in another way than the program.
func numberBytes(n int) []byte {
	switch {
	case n < 1<<7:
		return []byte{byte(n)}
	case n < 1<<14:
		return []byte{128 | byte(n>>7), byte(n & 127)}
	}
	return []byte{128 | byte(n>>14), 128 | byte(n>>7), byte(n & 127)}
}

func someID() api.ID {
	return api.ID{128, 1, 2, 3, 4, 5, 6, 7, 8, 9, 10, 11, 12, 13, 14, 255}
}

func TestIDIsItsBytes(t *testing.T) {
	id := someID()
	w := field.New()
	w.ID(id)
	wantOut(t, "ID", w, id[:]...)
}

func TestWhatIsWrittenStandsBehind(t *testing.T) {
	w := field.New()
	w.Int(300)
	wantOut(t, "a number", w, 130, 44)
	w.Text("ab")
	wantOut(t, "and a text", w, 130, 44, 2, 97, 98)
	w.Bytes([]byte{9, 0, 128})
	wantOut(t, "and bytes", w, 130, 44, 2, 97, 98, 3, 9, 0, 128)
	w.ID(api.ID{7, 15: 8})
	wantOut(t, "and an ID", w, 130, 44, 2, 97, 98, 3, 9, 0, 128, 7, 0, 0, 0, 0, 0, 0, 0, 0, 0, 0, 0, 0, 0, 0, 8)
	w.Int(0)
	wantOut(t, "and a number", w, 130, 44, 2, 97, 98, 3, 9, 0, 128, 7, 0, 0, 0, 0, 0, 0, 0, 0, 0, 0, 0, 0, 0, 0, 8, 0)
}

func TestWritersAreTheirOwn(t *testing.T) {
	a, b := field.New(), field.New()
	a.Int(1)
	b.Int(2)
	a.Int(-1)
	b.Int(3)
	wantOut(t, "the other one", b, 2, 3)
}

func TestOutIsNewMemory(t *testing.T) {
	w := field.New()
	w.Bytes([]byte{1, 2, 3})
	first, _ := w.Out()
	second, _ := w.Out()
	room := first[:cap(first)]
	for i := range room {
		room[i] = 99
	}
	if !bytes.Equal(second, []byte{3, 1, 2, 3}) {
		t.Errorf("one answer shares the other's bytes: %v", second)
	}
	w.Int(5)
	w.Int(6)
	wantOut(t, "what was written", w, 3, 1, 2, 3, 5, 6)
	for _, x := range room {
		if x != 99 {
			t.Fatalf("an answer was written into: %v", room)
		}
	}
}

func TestBytesKeepsNothing(t *testing.T) {
	given := []byte{1, 2, 77, 77}
	w := field.New()
	w.Bytes(given[:2])
	w.Int(5)
	if !bytes.Equal(given, []byte{1, 2, 77, 77}) {
		t.Errorf("what was handed in was changed: %v", given)
	}
	given[0], given[1], given[2] = 88, 88, 88
	wantOut(t, "bytes that were changed behind the call", w, 2, 1, 2, 5)
}

func TestWriterThatNewDidNotMake(t *testing.T) {
	for i, w := range []*field.Writer{nil, {}, new(field.Writer)} {
		for range 2 {
			w.Int(1)
			w.Int(-1)
			w.Bytes([]byte{1})
			w.Bytes(nil)
			w.Text("x")
			w.ID(api.ID{1})
			if b, err := w.Out(); err != api.ErrNil || len(b) != 0 {
				t.Errorf("%d: %v, %v", i, b, err)
			}
		}
	}
}
