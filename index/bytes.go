package index

import (
	"satchel/api"
	"satchel/field"
	"satchel/guard"
)

// Bytes tells an index's bytes.
func Bytes(l []api.Packed) ([]byte, api.Errno) {
	if err := Check(l); err != api.OK {
		return nil, err
	}
	return guard.Put(laid(l)), api.OK
}

// laid tells the bytes of an index that may be, without their sum. (So no number of it is one that a writer refuses.)
func laid(l []api.Packed) []byte {
	w := field.New()
	w.Int(len(l))
	for _, p := range l {
		layPack(w, p)
	}
	b, _ := w.Out()
	return b
}

func layPack(w *field.Writer, p api.Packed) {
	w.Int(p.Number)
	w.Int(p.Size)
	w.Int(len(p.L))
	for _, h := range p.L {
		w.ID(h.ID)
		w.Int(h.At)
		w.Int(h.Size)
	}
}

// Read tells the index of bytes.
func Read(b []byte) ([]api.Packed, api.Errno) {
	all, err := guard.Check(b)
	if err != api.OK {
		return nil, api.ErrBytes
	}
	r := field.Open(all)
	l := readPacks(r)
	if r.End().Err != api.OK || Check(l) != api.OK {
		return nil, api.ErrBytes
	}
	return l, api.OK
}

// What is read may have any numbers, for Check judges them behind it; just how many things there are is bounded while they are read. Behind a fault the reader tells nothing but noughts.
func readPacks(r *field.Reader) []api.Packed {
	var l []api.Packed
	for range r.Count(api.MaxPacks) {
		l = append(l, readPack(r))
	}
	return l
}

// The calls within a literal are made in the order in which they stand there.
func readPack(r *field.Reader) api.Packed {
	return api.Packed{
		Number: r.Int(0, api.MaxID),
		Size:   r.Int(0, api.MaxID),
		L:      readChunks(r),
	}
}

func readChunks(r *field.Reader) []api.Held {
	var l []api.Held
	for range r.Count(api.MaxHeld) {
		l = append(l, api.Held{
			ID:   r.ID(),
			At:   r.Int(0, api.MaxID),
			Size: r.Int(0, api.MaxID),
		})
	}
	return l
}
