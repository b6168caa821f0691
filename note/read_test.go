package note_test

import (
	"bytes"
	"math/rand"
	"slices"
	"testing"

	"satchel/api"
	"satchel/note"
)

func TestExamplesOfRead(t *testing.T) {
	want := api.Note{Kind: api.NotePart, N: []int{300}, B: []byte{1, 2}}
	if x, f := note.Read([]byte{2, 1, 130, 44, 0, 2, 1, 2}); f != (api.Fault{}) || !same(x, want) {
		t.Error(x, f)
	}
	for _, c := range []struct {
		b    []byte
		want api.Fault
	}{
		{[]byte{25}, api.Fault{Err: api.ErrRange}},
		{[]byte{5, 1, 0, 0}, api.Fault{Err: api.ErrLong, At: 1}},
		{[]byte{2, 0}, api.Fault{Err: api.ErrRange, At: 1}},
		{[]byte{5, 0, 0, 0, 0}, api.Fault{Err: api.ErrBytes, At: 4}},
		{[]byte{5, 0, 0}, api.Fault{Err: api.ErrBytes, At: 3}},
	} {
		wantFault(t, c.b, c.want)
	}
}

func wantFault(t *testing.T, b []byte, want api.Fault) {
	t.Helper()
	if x, f := note.Read(b); f != want || !isZero(x) {
		t.Errorf("%v: %v, %v; want %v", b, x, f, want)
	}
}

func TestReadOfBytesCutShort(t *testing.T) {
	for _, x := range good() {
		b := toldBytes(x)
		for n := range b {
			wantFault(t, b[:n], api.Fault{Err: api.ErrBytes, At: n})
		}
	}
}

func TestReadOfBytesWithMoreBehind(t *testing.T) {
	for _, x := range good() {
		b := toldBytes(x)
		for _, more := range [][]byte{{0}, {255}, {5, 0, 0, 0}, b} {
			wantFault(t, slices.Concat(b, more), api.Fault{Err: api.ErrBytes, At: len(b)})
		}
	}
}

// TestReadAboutTheEdgesOfAllKinds reads what has too few or too many of a thing, and is cut off at each place behind where this is told: the fault stays.
func TestReadAboutTheEdgesOfAllKinds(t *testing.T) {
	for _, x := range aboutAll() {
		b := toldBytes(x)
		_, f := toldRead(b)
		if (f.Err == api.OK) != (told(x) == api.OK) {
			t.Fatalf("kind %d: %v", x.Kind, f)
		}
		if f.Err == api.OK {
			continue
		}
		for n := f.At + 2; n <= len(b); n++ {
			wantFault(t, b[:n], f)
		}
	}
}

func TestReadOfKinds(t *testing.T) {
	for _, kind := range []int{0, 25, 26, 127, 128, 128 + 5, 300, api.MaxID} {
		wantFault(t, toldNumber(kind), api.Fault{Err: api.ErrRange})
		wantFault(t, append(toldNumber(kind), 128), api.Fault{Err: api.ErrRange})
	}
	wantFault(t, nil, api.Fault{Err: api.ErrBytes})
	wantFault(t, []byte{}, api.Fault{Err: api.ErrBytes})
	wantFault(t, []byte{128, 5, 0, 0, 0}, api.Fault{Err: api.ErrBytes})
	wantFault(t, []byte{24}, api.Fault{Err: api.ErrBytes, At: 1})
}

func TestReadOfNumbers(t *testing.T) {
	for _, n := range []int{0, 127, 128, 1<<31 - 1} {
		b := slices.Concat([]byte{19, 1}, toldNumber(n), []byte{0, 0})
		if x, f := note.Read(b); f != (api.Fault{}) || !same(x, api.Note{Kind: 19, N: []int{n}}) {
			t.Error(n, x, f)
		}
	}
	wantFault(t, []byte{19, 1, 136, 128, 128, 128, 0, 0, 0}, api.Fault{Err: api.ErrRange, At: 2})
	wantFault(t, []byte{20, 2, 5, 136, 128, 128, 128, 0}, api.Fault{Err: api.ErrRange, At: 3})
	wantFault(t, []byte{20, 2, 5, 128, 5, 0, 0}, api.Fault{Err: api.ErrBytes, At: 3})
}

// TestReadOfSeveralFaults has what is told first, though what stands behind is wrong too.
func TestReadOfSeveralFaults(t *testing.T) {
	for _, c := range []struct {
		b    []byte
		want api.Fault
	}{
		{[]byte{0, 9, 9, 9}, api.Fault{Err: api.ErrRange}},
		{[]byte{1, 2}, api.Fault{Err: api.ErrRange, At: 1}},
		{[]byte{1, 2, 128}, api.Fault{Err: api.ErrRange, At: 1}},
		{[]byte{1, 4, 128}, api.Fault{Err: api.ErrLong, At: 1}},
		{[]byte{1, 128}, api.Fault{Err: api.ErrBytes, At: 1}},
		{[]byte{1, 136, 128, 128, 128, 0}, api.Fault{Err: api.ErrRange, At: 1}},
		{[]byte{17, 0, 9}, api.Fault{Err: api.ErrRange, At: 1}},
		{[]byte{17, 17, 9}, api.Fault{Err: api.ErrLong, At: 1}},
		{[]byte{3, 0, 0, 9}, api.Fault{Err: api.ErrRange, At: 2}},
		{[]byte{3, 0, 17, 9}, api.Fault{Err: api.ErrLong, At: 2}},
		{[]byte{3, 0, 1, 9}, api.Fault{Err: api.ErrBytes, At: 4}},
		{[]byte{2, 1, 5, 0, 0, 9}, api.Fault{Err: api.ErrRange, At: 4}},
		{[]byte{2, 1, 5, 0, 135, 105, 9}, api.Fault{Err: api.ErrLong, At: 4}},
		{[]byte{2, 1, 5, 0, 3, 9}, api.Fault{Err: api.ErrBytes, At: 6}},
		{[]byte{2, 1, 5, 0}, api.Fault{Err: api.ErrBytes, At: 4}},
		{[]byte{2, 1, 5, 0, 135}, api.Fault{Err: api.ErrBytes, At: 5}},
		{[]byte{2, 1, 5, 1, 0, 0}, api.Fault{Err: api.ErrLong, At: 3}},
	} {
		wantFault(t, c.b, c.want)
	}
}

// scan goes through bytes as the document's words say a reader does.
type scan struct {
	b  []byte
	at int
	f  api.Fault
}

func (s *scan) fail(err api.Errno, at int) bool {
	s.f = api.Fault{Err: err, At: at}
	return false
}

// number reads a number from least to most; what is above is told by the error handed in.
func (s *scan) number(least, most int, above api.Errno) (int, bool) {
	n := 0
	for i := range 6 {
		at := s.at + i
		switch {
		case at >= len(s.b):
			return 0, s.fail(api.ErrBytes, len(s.b))
		case i == 0 && s.b[at] == 128:
			return 0, s.fail(api.ErrBytes, s.at)
		}
		n = n*128 + int(s.b[at]&127)
		if s.b[at] >= 128 && i < 4 {
			continue
		}
		switch {
		case s.b[at] >= 128, n > 2147483647, n < least:
			return 0, s.fail(api.ErrRange, s.at)
		case n > most:
			return 0, s.fail(above, s.at)
		}
		s.at += i + 1
		return n, true
	}
	return 0, false
}

func (s *scan) take(n int) ([]byte, bool) {
	if s.at+n > len(s.b) {
		return nil, s.fail(api.ErrBytes, len(s.b))
	}
	s.at += n
	return s.b[s.at-n : s.at], true
}

// toldRead tells the note of bytes, and the fault, as the document's words say it.
func toldRead(b []byte) (api.Note, api.Fault) {
	s := &scan{b: b}
	x, is := s.note()
	if is && s.at < len(b) {
		is = s.fail(api.ErrBytes, s.at)
	}
	if !is {
		return api.Note{}, s.f
	}
	return x, api.Fault{}
}

func (s *scan) note() (x api.Note, is bool) {
	if x.Kind, is = s.number(1, 24, api.ErrRange); !is {
		return x, false
	}
	k := table()[x.Kind-1]
	n, is := s.number(k.leastN, k.mostN, api.ErrLong)
	for i := 0; is && i < n; i++ {
		var one int
		one, is = s.number(0, 2147483647, api.ErrRange)
		x.N = append(x.N, one)
	}
	if !is {
		return x, false
	}
	n, is = s.number(k.leastID, k.mostID, api.ErrLong)
	for i := 0; is && i < n; i++ {
		var one []byte
		if one, is = s.take(16); is {
			x.IDs = append(x.IDs, api.ID(one))
		}
	}
	if !is {
		return x, false
	}
	if n, is = s.number(k.leastB, k.mostB, api.ErrLong); !is {
		return x, false
	}
	x.B, is = s.take(n)
	return x, is
}

// wantRead looks at what bytes are read as, and, where they are a note, at what follows.
func wantRead(t *testing.T, b []byte) bool {
	t.Helper()
	want, fault := toldRead(b)
	x, f := note.Read(b)
	if f != fault || !same(x, want) {
		t.Fatalf("%v: %v, %v; want %v, %v", b, x, f, want, fault)
	}
	if f.Err != api.OK {
		return false
	}
	again, err := note.Bytes(x)
	if note.Check(x) != api.OK || err != api.OK || !bytes.Equal(again, b) {
		t.Fatalf("%v: %v, %v, %v", b, x, again, err)
	}
	return true
}

func TestReadOfAllShortBytes(t *testing.T) {
	telling := []byte{0, 1, 2, 3, 17, 128, 129, 136, 255}
	var lay func(b []byte)
	lay = func(b []byte) {
		wantRead(t, b)
		if len(b) < 5 {
			for _, x := range telling {
				lay(append(b[:len(b):len(b)], x))
			}
		}
	}
	for kind := range 27 {
		lay([]byte{byte(kind)})
	}
}

// TestReadOfTurnedBytes turns, takes out and puts in bytes of notes that may be.
func TestReadOfTurnedBytes(t *testing.T) {
	r := rand.New(rand.NewSource(10))
	notes := 0
	for _, x := range good() {
		for range 200 {
			b := toldBytes(x)
			at := r.Intn(min(len(b), 1+r.Intn(len(b))))
			switch r.Intn(3) {
			case 0:
				b[at] = byte(r.Intn(256))
			case 1:
				b = slices.Delete(b, at, at+1)
			case 2:
				b = slices.Insert(b, at, byte(r.Intn(256)))
			}
			if wantRead(t, b) {
				notes++
			}
		}
	}
	if notes < 100 {
		t.Error("few are notes:", notes)
	}
}

func TestWhatIsReadIsNewMemory(t *testing.T) {
	for _, x := range good() {
		b := append(toldBytes(x), 1, 2, 3)
		b = b[:len(b)-3]
		got, _ := note.Read(b)
		other, _ := note.Read(b)
		fill(got.B)
		for i := range got.N[:cap(got.N)] {
			got.N[:cap(got.N)][i] = -1
		}
		for i := range got.IDs[:cap(got.IDs)] {
			got.IDs[:cap(got.IDs)][i] = api.ID{77}
		}
		if !bytes.Equal(b[:len(b)+3], append(toldBytes(x), 1, 2, 3)) || !same(other, x) {
			t.Errorf("kind %d: what is read is shared", x.Kind)
		}
		if fill(b); !same(other, x) {
			t.Errorf("kind %d: the bytes were kept", x.Kind)
		}
	}
}
