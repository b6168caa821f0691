package manifest

import (
	"satchel/api"
	"satchel/field"
)

// What a reader awaits at most.
const (
	mostMode   = 0o777 // all nine bits, to read, to write and to run
	mostChunks = api.MaxFile / api.MinChunk
)

// Bytes tells a manifest's bytes.
func Bytes(m api.Manifest) ([]byte, api.Errno) {
	if err, _ := Check(m); err != api.OK {
		return nil, err
	}
	b := laid(m)
	if len(b) > api.MaxManifest {
		return nil, api.ErrLong
	}
	return b, api.OK
}

// laid tells the bytes of a manifest that may be, however many they are. (So no number of it is one that a writer refuses.)
func laid(m api.Manifest) []byte {
	w := field.New()
	layNumbers(w, m.Client, m.Command, m.Number, m.Tick, len(m.Items))
	for _, x := range m.Items {
		layItem(w, x)
	}
	b, _ := w.Out()
	return b
}

func layItem(w *field.Writer, x api.Item) {
	w.Text(x.Path)
	layNumbers(w, x.Kind, x.Mode, x.Size)
	w.Text(x.To)
	w.Int(len(x.Chunks))
	for _, id := range x.Chunks {
		w.ID(id)
	}
}

func layNumbers(w *field.Writer, numbers ...int) {
	for _, n := range numbers {
		w.Int(n)
	}
}

// Read tells the manifest of bytes.
func Read(b []byte) (api.Manifest, api.Fault) {
	if len(b) > api.MaxManifest {
		return api.Manifest{}, api.Fault{Err: api.ErrLong, At: api.MaxManifest}
	}
	r := field.Open(b)
	m := readManifest(r)
	if f := r.End(); f.Err != api.OK {
		return api.Manifest{}, f
	}
	if err, _ := Check(m); err != api.OK {
		return api.Manifest{}, api.Fault{Err: err, At: len(b)}
	}
	return m, api.Fault{}
}

// readManifest, readItem and readIDs read on behind a fault too, for then the reader tells nothing but noughts. The calls within a literal are made in the order in which they stand there.
func readManifest(r *field.Reader) api.Manifest {
	m := api.Manifest{
		Client:  r.Int(1, api.MaxID),
		Command: r.Int(1, api.MaxID),
		Number:  r.Int(0, api.MaxID),
		Tick:    r.Int(0, api.MaxID),
	}
	for range r.Count(api.MaxEntries) {
		m.Items = append(m.Items, readItem(r))
	}
	return m
}

func readItem(r *field.Reader) api.Item {
	return api.Item{
		Path:   r.Text(api.MaxPath),
		Kind:   r.Int(api.Dir, api.Link),
		Mode:   r.Int(0, mostMode),
		Size:   r.Int(0, api.MaxFile),
		To:     r.Text(api.MaxPath),
		Chunks: readIDs(r),
	}
}

func readIDs(r *field.Reader) []api.ID {
	var l []api.ID
	for range r.Count(mostChunks) {
		l = append(l, r.ID())
	}
	return l
}
