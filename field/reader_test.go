package field_test

import (
	"bytes"
	"math"
	"testing"

	"satchel/api"
	"satchel/field"
)

// stand is all that a reader tells of itself.
type stand struct {
	at, left   int
	fault, end api.Fault
}

func standOf(r *field.Reader) stand { return stand{r.At(), r.Left(), r.Fault(), r.End()} }

func wantStand(t *testing.T, what string, r *field.Reader, want stand) {
	t.Helper()
	if s := standOf(r); s != want {
		t.Errorf("%s: %+v; want %+v", what, s, want)
	}
}

// good is how a reader of size bytes stands at a place without a fault.
func good(at, size int) stand {
	s := stand{at: at, left: size - at}
	if at < size {
		s.end = api.Fault{Err: api.ErrBytes, At: at}
	}
	return s
}

// faulty is how a reader of size bytes stands at a place with a fault.
func faulty(at, size int, err api.Errno, found int) stand {
	f := api.Fault{Err: err, At: found}
	return stand{at, size - at, f, f}
}

// part is one of the reader's calls that read.
type part struct {
	name string
	read func(r *field.Reader) bool // whether it answers a zero value
}

func number(r *field.Reader) bool { return r.Int(0, api.MaxID) == 0 }

func parts() []part {
	return []part{
		{"Int", number},
		{"Int of all", func(r *field.Reader) bool { return r.Int(math.MinInt, math.MaxInt) == 0 }},
		{"Int of none", func(r *field.Reader) bool { return r.Int(1, 0) == 0 }},
		{"Count", func(r *field.Reader) bool { return r.Count(api.MaxID) == 0 }},
		{"Count of -1", func(r *field.Reader) bool { return r.Count(-1) == 0 }},
		{"Bytes", func(r *field.Reader) bool { return len(r.Bytes(api.MaxID)) == 0 }},
		{"Bytes of -1", func(r *field.Reader) bool { return len(r.Bytes(-1)) == 0 }},
		{"Text", func(r *field.Reader) bool { return r.Text(api.MaxID) == "" }},
		{"ID", func(r *field.Reader) bool { return r.ID() == api.ID{} }},
	}
}

func TestOpenStandsAtTheBeginning(t *testing.T) {
	wantStand(t, "none", field.Open(nil), good(0, 0))
	wantStand(t, "no bytes", field.Open([]byte{}), good(0, 0))
	wantStand(t, "three bytes", field.Open([]byte{128, 1, 2}), good(0, 3))
}

func TestIntReadsNumbers(t *testing.T) {
	for _, x := range numbers {
		b := append(bytes.Clone(x.b), 9)
		r := field.Open(b)
		if n := r.Int(0, api.MaxID); n != x.n {
			t.Errorf("%v: %d; want %d", x.b, n, x.n)
		}
		wantStand(t, "behind a number", r, good(len(x.b), len(b)))
		if n := r.Int(9, 9); n != 9 {
			t.Errorf("behind %v: %d", x.b, n)
		}
		wantStand(t, "at the end", r, good(len(b), len(b)))
	}
}

func TestIntBounds(t *testing.T) {
	for _, x := range []struct {
		n, low, high int
		in           bool
	}{
		{5, 5, 5, true}, {5, 4, 6, true}, {5, 6, 9, false}, {5, 0, 4, false}, {5, 6, 4, false}, {5, 5, 4, false}, {5, 6, 5, false},
		{0, 0, 0, true}, {0, 1, 9, false}, {0, -9, 0, true}, {0, -9, -1, false}, {0, math.MinInt, math.MaxInt, true}, {0, math.MaxInt, math.MinInt, false},
		{300, 1, 300, true}, {300, 301, api.MaxID, false}, {300, 0, 299, false},
		{api.MaxID, api.MaxID, api.MaxID, true}, {api.MaxID, 0, api.MaxID - 1, false}, {api.MaxID, api.MaxID + 1, math.MaxInt, false}, {api.MaxID, 0, math.MaxInt, true},
	} {
		b, _ := written(func(w *field.Writer) { w.Int(7); w.Int(x.n) })
		r := field.Open(b)
		r.Int(7, 7)
		n := r.Int(x.low, x.high)
		if x.in {
			if n != x.n {
				t.Errorf("%+v: %d", x, n)
			}
			wantStand(t, "within", r, good(len(b), len(b)))
			continue
		}
		if n != 0 {
			t.Errorf("%+v: %d", x, n)
		}
		wantStand(t, "out of range", r, faulty(1, len(b), api.ErrRange, 1))
	}
}

func TestCountBounds(t *testing.T) {
	for _, x := range []struct {
		n, most int
		in      bool
	}{
		{0, 0, true}, {0, 9, true}, {0, -1, false}, {0, math.MinInt, false}, {5, 5, true}, {5, 4, false}, {5, 6, true}, {5, -5, false},
		{128, 127, false}, {128, 128, true}, {api.MaxID, api.MaxID, true}, {api.MaxID, math.MaxInt, true}, {api.MaxID, api.MaxID - 1, false},
	} {
		b, _ := written(func(w *field.Writer) { w.Int(7); w.Int(x.n) })
		r := field.Open(b)
		r.Int(7, 7)
		n := r.Count(x.most)
		if x.in {
			if n != x.n {
				t.Errorf("%+v: %d", x, n)
			}
			wantStand(t, "within", r, good(len(b), len(b)))
			continue
		}
		if n != 0 {
			t.Errorf("%+v: %d", x, n)
		}
		wantStand(t, "too many", r, faulty(1, len(b), api.ErrLong, 1))
	}
}

// noNumberBytes are bytes at whose beginning no number stands, and why.
var noNumberBytes = []struct {
	b   []byte
	err api.Errno
	at  int
}{
	{nil, api.ErrBytes, 0},
	{[]byte{128}, api.ErrBytes, 0},
	{[]byte{128, 1}, api.ErrBytes, 0},
	{[]byte{128, 128, 128, 128, 128}, api.ErrBytes, 0},
	{[]byte{128, 255, 255, 255, 255, 255}, api.ErrBytes, 0},
	{[]byte{129}, api.ErrBytes, 1},
	{[]byte{129, 128}, api.ErrBytes, 2},
	{[]byte{129, 128, 255}, api.ErrBytes, 3},
	{[]byte{255, 255, 255, 255}, api.ErrBytes, 4},
	{[]byte{135, 255, 255, 255}, api.ErrBytes, 4},
	{[]byte{136, 128, 128, 128, 0}, api.ErrRange, 0},
	{[]byte{136, 128, 128, 128, 0, 1}, api.ErrRange, 0},
	{[]byte{255, 255, 255, 255, 127}, api.ErrRange, 0},
	{[]byte{144, 128, 128, 128, 5}, api.ErrRange, 0},
	{[]byte{129, 128, 128, 128, 128}, api.ErrRange, 0},
	{[]byte{129, 128, 128, 128, 128, 0}, api.ErrRange, 0},
	{[]byte{135, 255, 255, 255, 255, 127}, api.ErrRange, 0},
	{[]byte{255, 255, 255, 255, 255, 1}, api.ErrRange, 0},
}

func TestNoNumberAtThePlace(t *testing.T) {
	for _, x := range noNumberBytes {
		for ahead := range 3 {
			for _, p := range parts()[:8] { // all but ID begin with a number
				b := append([]byte{5, 6}[:ahead:ahead], x.b...)
				r := field.Open(b)
				for range ahead {
					r.Int(0, 9)
				}
				if !p.read(r) {
					t.Errorf("%s of %v: not zero", p.name, x.b)
				}
				wantStand(t, p.name, r, faulty(ahead, len(b), x.err, ahead+x.at))
			}
		}
	}
}

func TestBytesAndTextAreRead(t *testing.T) {
	for _, n := range []int{0, 1, 2, 127, 128, 1000, 16384} {
		s := bytes.Repeat([]byte{255, 0, 130}, n/3+1)[:n]
		for _, most := range []int{n, n + 1, api.MaxID, math.MaxInt} {
			b := append(append(numberBytes(n), s...), 3)
			r := field.Open(b)
			if got := r.Bytes(most); !bytes.Equal(got, s) {
				t.Errorf("Bytes(%d) of %d: %d", most, n, len(got))
			}
			wantStand(t, "Bytes", r, good(len(b)-1, len(b)))
			r = field.Open(b)
			if got := r.Text(most); got != string(s) {
				t.Errorf("Text(%d) of %d: %d", most, n, len(got))
			}
			wantStand(t, "Text", r, good(len(b)-1, len(b)))
		}
	}
}

func TestBytesAndTextFaults(t *testing.T) {
	for _, x := range []struct {
		b    []byte
		most int
		err  api.Errno
		at   int
	}{
		{[]byte{4, 2, 1, 1}, 1, api.ErrLong, 1},
		{[]byte{4, 2, 1, 1}, -1, api.ErrLong, 1},
		{[]byte{4, 0}, -1, api.ErrLong, 1},
		{[]byte{4, 3, 1, 2}, 2, api.ErrLong, 1},
		{[]byte{4, 3, 1, 2}, 3, api.ErrBytes, 4},
		{[]byte{4, 2, 1}, 9, api.ErrBytes, 3},
		{[]byte{4, 1}, 9, api.ErrBytes, 2},
		{[]byte{4, 129, 0, 1}, 127, api.ErrLong, 1},
		{[]byte{4, 129, 0, 1}, 128, api.ErrBytes, 4},
		{[]byte{4, 135, 255, 255, 255, 127, 1}, math.MaxInt, api.ErrBytes, 7},
	} {
		r := field.Open(x.b)
		r.Int(4, 4)
		if got := r.Bytes(x.most); len(got) != 0 {
			t.Errorf("Bytes(%d) of %v: %v", x.most, x.b, got)
		}
		wantStand(t, "Bytes", r, faulty(1, len(x.b), x.err, x.at))
		r = field.Open(x.b)
		r.Int(4, 4)
		if got := r.Text(x.most); got != "" {
			t.Errorf("Text(%d) of %v: %q", x.most, x.b, got)
		}
		wantStand(t, "Text", r, faulty(1, len(x.b), x.err, x.at))
	}
}

func TestIDIsRead(t *testing.T) {
	id := someID()
	b := append(append([]byte{4}, id[:]...), 5)
	r := field.Open(b)
	r.Int(4, 4)
	if got := r.ID(); got != id {
		t.Errorf("%v", got)
	}
	wantStand(t, "ID", r, good(17, 18))
	r = field.Open(b[1:17])
	if got := r.ID(); got != id {
		t.Errorf("%v", got)
	}
	wantStand(t, "ID alone", r, good(16, 16))
}

func TestIDCutShort(t *testing.T) {
	id := someID()
	for n := range 16 {
		b := append([]byte{4}, id[:n]...)
		r := field.Open(b)
		r.Int(4, 4)
		if got := r.ID(); got != (api.ID{}) {
			t.Errorf("%d: %v", n, got)
		}
		wantStand(t, "ID", r, faulty(1, len(b), api.ErrBytes, len(b)))
	}
}

func TestNothingIsReadBehindAFault(t *testing.T) {
	b := append([]byte{1, 5}, bytes.Repeat([]byte{1}, 40)...)
	for _, x := range []struct {
		name string
		read func(r *field.Reader) bool
		err  api.Errno
	}{
		{"Int", func(r *field.Reader) bool { return r.Int(0, 4) == 0 }, api.ErrRange},
		{"Count", func(r *field.Reader) bool { return r.Count(4) == 0 }, api.ErrLong},
		{"Bytes", func(r *field.Reader) bool { return len(r.Bytes(4)) == 0 }, api.ErrLong},
		{"Text", func(r *field.Reader) bool { return r.Text(4) == "" }, api.ErrLong},
	} {
		for _, p := range parts() {
			r := field.Open(b)
			r.Int(1, 1)
			x.read(r)
			for range 2 {
				if !p.read(r) {
					t.Errorf("%s behind a fault of %s: not zero", p.name, x.name)
				}
				wantStand(t, x.name+" and "+p.name, r, faulty(1, len(b), x.err, 1))
			}
		}
	}
}

func TestFaultAt0Stays(t *testing.T) {
	for _, p := range parts() {
		r := field.Open([]byte{128, 1, 1, 1, 1, 1, 1, 1, 1, 1, 1, 1, 1, 1, 1, 1, 1, 1, 1, 1})
		number(r)
		if !p.read(r) {
			t.Errorf("%s: not zero", p.name)
		}
		wantStand(t, p.name, r, faulty(0, 20, api.ErrBytes, 0))
	}
}

func TestEndIsNoFault(t *testing.T) {
	r := field.Open([]byte{1, 2})
	for range 2 {
		wantStand(t, "ahead of all", r, good(0, 2))
	}
	if r.Int(0, 9) != 1 || r.Int(0, 9) != 2 {
		t.Error("nothing is read behind End")
	}
	wantStand(t, "behind all", r, good(2, 2))
	number(r)
	wantStand(t, "a number behind all", r, faulty(2, 2, api.ErrBytes, 2))
}

func TestReadersAreTheirOwn(t *testing.T) {
	a, b := field.Open([]byte{1, 2}), field.Open([]byte{3, 4})
	a.Int(0, 9)
	b.Int(0, 1)
	wantStand(t, "one", a, good(1, 2))
	wantStand(t, "the other", b, faulty(0, 2, api.ErrRange, 0))
}

func TestOpenKeepsNothing(t *testing.T) {
	given := []byte{1, 5, 77}
	r := field.Open(given[:2])
	given[0], given[1] = 9, 9
	if n := r.Int(0, 9); n != 1 {
		t.Errorf("bytes that were changed behind the call are read: %d", n)
	}
	if got := r.Bytes(9); len(got) != 0 {
		t.Errorf("spare room is read: %v", got)
	}
	wantStand(t, "spare room", r, faulty(1, 2, api.ErrBytes, 2))
}

func TestReadBytesAreNewMemory(t *testing.T) {
	given := []byte{2, 1, 2, 2, 3, 4, 0, 5}
	r := field.Open(given)
	first := r.Bytes(9)
	second := r.Bytes(9)
	none := r.Bytes(9)
	for _, b := range [][]byte{first, none} {
		room := b[:cap(b)]
		for i := range room {
			room[i] = 99
		}
	}
	if !bytes.Equal(second, []byte{3, 4}) || r.Int(0, 9) != 5 || !bytes.Equal(given, []byte{2, 1, 2, 2, 3, 4, 0, 5}) {
		t.Errorf("%v, %v: an answer shares bytes", second, given)
	}
}

func TestReaderThatOpenDidNotMake(t *testing.T) {
	none := stand{fault: api.Fault{Err: api.ErrNil}, end: api.Fault{Err: api.ErrNil}}
	for _, r := range []*field.Reader{nil, {}, new(field.Reader)} {
		wantStand(t, "none", r, none)
		for _, p := range parts() {
			if !p.read(r) {
				t.Errorf("%s of none: not zero", p.name)
			}
			wantStand(t, p.name+" of none", r, none)
		}
	}
}
