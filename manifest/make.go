package manifest

import (
	"satchel/api"
	"satchel/chunk"
	"satchel/digest"
	"satchel/tree"
)

// mostNames is how many IDs a manifest's bytes have room for, and for nothing else then.
const mostNames = api.MaxManifest / len(api.ID{})

// Make tells the manifest of a tree, and its chunks.
func Make(client, command, tick int, l []api.Entry) (api.Manifest, []api.Chunk, api.Errno) {
	if err, _ := tree.Check(l); err != api.OK {
		return api.Manifest{}, nil, err
	}
	m := api.Manifest{Client: client, Command: command, Tick: tick}
	if !hasBounds(m) {
		return api.Manifest{}, nil, api.ErrRange
	}
	c := collector{met: idSet{}}
	for _, e := range l {
		m.Items = append(m.Items, c.item(e))
		// A tree may have many times as many bytes as a manifest can name: the rest of it needn't be cut.
		if c.names > mostNames {
			return api.Manifest{}, nil, api.ErrLong
		}
	}
	if len(laid(m)) > api.MaxManifest {
		return api.Manifest{}, nil, api.ErrLong
	}
	return m, c.chunks, api.OK
}

// collector makes items from entries, and keeps the chunks that it comes by.
type collector struct {
	met    idSet
	chunks []api.Chunk
	names  int // IDs of all items, one that comes again too
}

// item tells the item of an entry.
func (c *collector) item(e api.Entry) api.Item {
	x := api.Item{Path: e.Path, Kind: e.Kind, Mode: e.Mode, Size: len(e.Data), To: e.To}
	for _, b := range chunk.Split(e.Data) {
		x.Chunks = append(x.Chunks, c.keep(b))
	}
	c.names += len(x.Chunks)
	return x
}

// keep keeps a chunk, if it is the first one of its ID, which it tells.
func (c *collector) keep(b []byte) api.ID {
	id := digest.ID(b)
	if c.met.add(id) {
		c.chunks = append(c.chunks, api.Chunk{ID: id, Data: b})
	}
	return id
}
