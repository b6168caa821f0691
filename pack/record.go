package pack

import (
	"iter"

	"satchel/api"
	"satchel/digest"
	"satchel/guard"
)

// record is what stands from a place of a pack on: a chunk's record, all of which is there; or none, which is all the rest then.
type record struct {
	at, end int
	rest    int    // api.Whole: it is a record; else why it is none
	size    int    // of a record: how many bytes the chunk has
	body    []byte // of a record: what stands behind the head
}

// records yields the records of a pack from the front on, and behind them the rest, if there is one.
func records(b []byte) iter.Seq[record] {
	return func(yield func(record) bool) {
		for at := 0; at < len(b); {
			r := recordAt(b, at)
			if !yield(r) {
				return
			}
			at = r.end
		}
	}
}

// recordAt tells what stands from a place on, which is within the pack or its end.
func recordAt(b []byte, at int) record {
	none := record{at: at, end: len(b), rest: api.Torn}
	left := b[at:]
	if len(left) < headSize {
		return none
	}
	n := int(left[0])<<8 | int(left[1])
	size := Size(n)
	switch {
	case size == 0 || headOf(n) != [headSize]byte(left):
		none.rest = api.Bad
		return none
	case len(left) < size:
		return none
	}
	return record{at: at, end: at + size, rest: api.Whole, size: n, body: left[headSize:size]}
}

// chunk tells a record's chunk, as new memory, and its ID: ErrMissing, if it is none; ErrDamaged, if it is not good.
func (r record) chunk() ([]byte, api.ID, api.Errno) {
	if r.rest != api.Whole {
		return nil, api.ID{}, api.ErrMissing
	}
	all, err := guard.Check(r.body)
	if err != api.OK {
		return nil, api.ID{}, api.ErrDamaged
	}
	id, b := api.ID(all), all[idSize:]
	if id != digest.ID(b) {
		return nil, api.ID{}, api.ErrDamaged
	}
	return b, id, api.OK
}

// headOf tells the head of the record of a chunk of n bytes.
func headOf(n int) [headSize]byte {
	high, low := byte(n>>8), byte(n)
	head := [headSize]byte{high, low, ^high, ^low}
	sum := guard.Sum(head[:4])
	head[4], head[5] = byte(sum), byte(sum>>8)
	return head
}
