package note

import (
	"satchel/api"
	"satchel/field"
)

// What stands behind a note's kind, in its order.
const (
	theNumbers = iota
	theIDs
	theBytes
	parts
)

// Read tells the note of bytes.
func Read(b []byte) (api.Note, api.Fault) {
	r := field.Open(b)
	x := api.Note{Kind: r.Int(api.NoteBegin, api.NoteCount)}
	s := shapeOf(x.Kind)
	at, few := 0, false
reading:
	for part := range parts {
		at = r.At()
		switch part {
		case theNumbers:
			n := r.Count(s.numbers.most)
			if few = n < s.numbers.least; few {
				break reading
			}
			x.N = readNumbers(r, n)
		case theIDs:
			n := r.Count(s.ids.most)
			if few = n < s.ids.least; few {
				break reading
			}
			x.IDs = readIDs(r, n)
		case theBytes:
			x.B = r.Bytes(s.bytes.most)
			few = len(x.B) < s.bytes.least
		}
	}
	if f := faultOf(r, at, few); f.Err != api.OK {
		return api.Note{}, f
	}
	return x, api.Fault{}
}

// faultOf tells the first fault of a note of whose part at a place there were too few, or not. The reader's own one goes ahead, for behind it the reader tells noughts, which may be too few.
func faultOf(r *field.Reader, at int, few bool) api.Fault {
	if few && r.Fault().Err == api.OK {
		return api.Fault{Err: api.ErrRange, At: at}
	}
	return r.End()
}

func readNumbers(r *field.Reader, n int) []int {
	var l []int
	for range n {
		l = append(l, r.Int(0, api.MaxID))
	}
	return l
}

func readIDs(r *field.Reader, n int) []api.ID {
	var l []api.ID
	for range n {
		l = append(l, r.ID())
	}
	return l
}
