package field

import (
	"bytes"

	"satchel/api"
)

// Reader reads. Open makes it.
type Reader struct {
	self  *Reader // tells a reader that Open made from a zero one and from a copy
	b     []byte
	at    int
	fault api.Fault
}

// Open makes a reader.
func Open(b []byte) *Reader {
	r := &Reader{b: bytes.Clone(b)}
	r.self = r
	return r
}

func (r *Reader) made() bool { return r != nil && r.self == r }

// Int reads a number from low to high.
func (r *Reader) Int(low, high int) int {
	return read(r, func() int {
		begin := r.at
		n := r.number()
		if n < low || n > high {
			giveUp(api.ErrRange, begin)
		}
		return n
	})
}

// Count reads a number of at most most.
func (r *Reader) Count(most int) int {
	return read(r, func() int { return r.count(most) })
}

// Bytes reads a byte string of at most most bytes.
func (r *Reader) Bytes(most int) []byte {
	return read(r, func() []byte { return bytes.Clone(r.take(r.count(most))) })
}

// Text reads a text of at most most bytes.
func (r *Reader) Text(most int) string {
	return read(r, func() string { return string(r.take(r.count(most))) })
}

// ID reads an ID.
func (r *Reader) ID() api.ID {
	return read(r, func() api.ID { return api.ID(r.take(len(api.ID{}))) })
}

// At tells where it stands.
func (r *Reader) At() int {
	if !r.made() {
		return 0
	}
	return r.at
}

// Left tells how many bytes are behind its place.
func (r *Reader) Left() int {
	if !r.made() {
		return 0
	}
	return len(r.b) - r.at
}

// Fault tells its fault.
func (r *Reader) Fault() api.Fault {
	if !r.made() {
		return api.Fault{Err: api.ErrNil}
	}
	return r.fault
}

// End tells its fault, or that bytes are left.
func (r *Reader) End() api.Fault {
	f := r.Fault()
	if f.Err == api.OK && r.Left() > 0 {
		return api.Fault{Err: api.ErrBytes, At: r.at}
	}
	return f
}

// stop is what the reading of a thing panics with where it finds its fault.
type stop api.Fault

func giveUp(err api.Errno, at int) { panic(stop{Err: err, At: at}) }

// read reads a thing, and is the one place where a fault that the reading finds is caught. A thing may be read in several steps: with a fault the place goes back to where it begins. Nothing but a fault panics in a reading.
func read[T any](r *Reader, thing func() T) (x T) {
	if !r.made() || r.fault.Err != api.OK {
		return x
	}
	begin := r.at
	defer func() {
		if found, is := recover().(stop); is {
			r.fault, r.at = api.Fault(found), begin
		}
	}()
	return thing()
}

// number reads a number; the order of its checks is the order of its faults.
func (r *Reader) number() int {
	begin := r.at
	part := r.take(1)[0]
	if part == more {
		giveUp(api.ErrBytes, begin)
	}
	n := uint64(part % more)
	for i := 1; part >= more && i < maxParts; i++ {
		part = r.take(1)[0]
		n = n<<partBits | uint64(part%more)
	}
	if part >= more || n > api.MaxID {
		giveUp(api.ErrRange, begin)
	}
	return int(n)
}

// count reads a number of at most most.
func (r *Reader) count(most int) int {
	begin := r.at
	n := r.number()
	if n > most {
		giveUp(api.ErrLong, begin)
	}
	return n
}

// take tells the next n bytes, which are still the reader's own.
func (r *Reader) take(n int) []byte {
	if n > r.Left() {
		giveUp(api.ErrBytes, len(r.b))
	}
	b := r.b[r.at : r.at+n]
	r.at += n
	return b
}
