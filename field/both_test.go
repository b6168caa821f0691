package field_test

import (
	"bytes"
	"testing"

	"satchel/api"
	"satchel/field"
)

// asBytes tells what a number is as bytes.
func asBytes(t *testing.T, n int) []byte {
	t.Helper()
	b, err := written(func(w *field.Writer) { w.Int(n) })
	if err != api.OK {
		t.Fatalf("Int(%d): %v", n, err)
	}
	return b
}

// someNumbers tells rising numbers: all small ones, those about each power of two, and the greatest.
func someNumbers() []int {
	var l []int
	for n := range 1 << 10 {
		l = append(l, n)
	}
	for shift := 11; shift < 31; shift++ {
		for d := -3; d <= 3; d++ {
			l = append(l, 1<<shift+d)
		}
		l = append(l, 1<<shift+1<<(shift-2)+77)
	}
	return append(l, api.MaxID-1, api.MaxID)
}

func TestNumbersThereAndBack(t *testing.T) {
	for _, n := range someNumbers() {
		b := asBytes(t, n)
		if len(b) != field.Size(n) {
			t.Errorf("Size(%d): %d; %v", n, field.Size(n), b)
		}
		r := field.Open(b)
		if got := r.Int(n, n); got != n || r.End() != (api.Fault{}) {
			t.Errorf("%d: %v, %d, %v", n, b, got, r.End())
		}
	}
}

func TestNumbersHaveTheirOrder(t *testing.T) {
	var last []byte
	for _, n := range someNumbers() {
		b := asBytes(t, n)
		if len(b) < len(last) || len(b) == len(last) && bytes.Compare(b, last) <= 0 {
			t.Errorf("%d: %v is not behind %v", n, b, last)
		}
		last = b
	}
}

func TestNoNumberBeginsAnother(t *testing.T) {
	numbers := map[string]int{}
	for _, n := range someNumbers() {
		numbers[string(asBytes(t, n))] = n
	}
	for s, n := range numbers {
		for i := range len(s) {
			if other, is := numbers[s[:i]]; is {
				t.Errorf("%d begins %d", other, n)
			}
		}
		for i := range len(s) {
			r := field.Open([]byte(s[:i]))
			if number(r); r.Fault() != (api.Fault{Err: api.ErrBytes, At: i}) {
				t.Errorf("%d cut to %d bytes: %v", n, i, r.Fault())
			}
		}
	}
}

// numberAt is what the document calls the number at a place: the number, how many bytes it has, and the fault.
func numberAt(b []byte, place int) (int, int, api.Fault) {
	if place >= len(b) {
		return 0, 0, api.Fault{Err: api.ErrBytes, At: len(b)}
	}
	if b[place] == 128 {
		return 0, 0, api.Fault{Err: api.ErrBytes, At: place}
	}
	var n int64
	for i := range 5 {
		if place+i >= len(b) {
			return 0, 0, api.Fault{Err: api.ErrBytes, At: len(b)}
		}
		n = n*128 + int64(b[place+i])%128
		if b[place+i] < 128 {
			if n > api.MaxID {
				break
			}
			return int(n), i + 1, api.Fault{}
		}
	}
	return 0, 0, api.Fault{Err: api.ErrRange, At: place}
}

// eachBytes calls do with all strings of at most so many of some telling bytes.
func eachBytes(most int, do func(b []byte)) {
	telling := []byte{0, 1, 127, 128, 129, 135, 136, 255}
	var lay func(b []byte)
	lay = func(b []byte) {
		do(b)
		if len(b) < most {
			for _, x := range telling {
				lay(append(b[:len(b):len(b)], x))
			}
		}
	}
	lay(nil)
}

func TestWhatIsReadIsWrittenAsItWas(t *testing.T) {
	eachBytes(5, func(b []byte) {
		r := field.Open(b)
		for r.Left() > 0 {
			place := r.At()
			want, size, fault := numberAt(b, place)
			n := r.Int(0, api.MaxID)
			if n != want || r.Fault() != fault || r.At() != place+size {
				t.Fatalf("%v at %d: %d, %v, %d; want %d, %v, %d", b, place, n, r.Fault(), r.At(), want, fault, place+size)
			}
			if fault.Err != api.OK {
				return
			}
			if again := asBytes(t, n); !bytes.Equal(again, b[place:r.At()]) {
				t.Fatalf("%v at %d: %d is written as %v", b, place, n, again)
			}
		}
	})
}

func TestPartsThereAndBack(t *testing.T) {
	id := someID()
	long := bytes.Repeat([]byte{200, 0, 7}, 100)
	for _, n := range someNumbers() {
		b, err := written(func(w *field.Writer) {
			w.Text(string(long))
			w.ID(id)
			w.Int(n)
			w.Bytes(long[:n%200])
			w.Text("")
			w.ID(api.ID{})
			w.Int(0)
		})
		if err != api.OK {
			t.Fatal(err)
		}
		r := field.Open(b)
		if r.Text(300) != string(long) || r.ID() != id || r.Int(0, api.MaxID) != n || !bytes.Equal(r.Bytes(200), long[:n%200]) || r.Text(0) != "" || r.ID() != (api.ID{}) || r.Int(0, 0) != 0 {
			t.Errorf("%d: not as it was", n)
		}
		wantStand(t, "behind all parts", r, good(len(b), len(b)))
	}
}

func TestExamples(t *testing.T) {
	w := field.New()
	w.Text("ab")
	w.Bytes(nil)
	wantOut(t, "Text(ab), Bytes(none)", w, 2, 97, 98, 0)
	r := field.Open([]byte{129, 0, 5})
	if a, b := r.Int(0, 200), r.Int(0, 4); a != 128 || b != 0 {
		t.Error(a, b)
	}
	wantStand(t, "129 0 5", r, faulty(2, 3, api.ErrRange, 2))
	r = field.Open([]byte{3, 1, 2})
	if a, b := r.Bytes(2), r.Bytes(9); len(a) != 0 || len(b) != 0 {
		t.Error(a, b)
	}
	wantStand(t, "3 1 2", r, faulty(0, 3, api.ErrLong, 0))
	r = field.Open([]byte{2, 1})
	if a := r.Bytes(9); len(a) != 0 || r.Left() != 2 {
		t.Error(a, r.Left())
	}
	wantStand(t, "2 1", r, faulty(0, 2, api.ErrBytes, 2))
}
