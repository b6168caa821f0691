package manifest

import (
	"slices"

	"satchel/api"
	"satchel/digest"
)

// Build tells the tree of a manifest and chunks.
func Build(m api.Manifest, l []api.Chunk) ([]api.Entry, api.Errno) {
	if err, _ := Check(m); err != api.OK {
		return nil, err
	}
	s := shelve(l)
	t := bare(m.Items)
	for at, x := range m.Items {
		data, err := s.data(x)
		if err != api.OK {
			return nil, err
		}
		t[at].Data = data
	}
	return t, api.OK
}

// shelf is chunks that are found by their IDs.
type shelf struct {
	chunks []api.Chunk
	places map[api.ID]int // of each ID where the first chunk that has it stands
	judged idSet          // IDs whose chunks were looked at, so that a chunk that is named often is digested once
}

func shelve(l []api.Chunk) *shelf {
	s := &shelf{chunks: l, places: map[api.ID]int{}, judged: idSet{}}
	for at, c := range l {
		if _, is := s.places[c.ID]; !is {
			s.places[c.ID] = at
		}
	}
	return s
}

// find tells the bytes of an ID, which are still those of the chunk.
func (s *shelf) find(id api.ID) ([]byte, api.Errno) {
	at, is := s.places[id]
	if !is {
		return nil, api.ErrMissing
	}
	data := s.chunks[at].Data
	if s.judged.add(id) && digest.ID(data) != id {
		return nil, api.ErrDamaged
	}
	return data, api.OK
}

// data tells an item's bytes, as new ones. They are put together once their size is known to be the item's: chunks that are handed in may be of any size, and be named many times.
func (s *shelf) data(x api.Item) ([]byte, api.Errno) {
	var parts [][]byte
	size := 0
	for _, id := range x.Chunks {
		b, err := s.find(id)
		if err != api.OK {
			return nil, err
		}
		parts = append(parts, b)
		size += len(b)
	}
	if size != x.Size {
		return nil, api.ErrBytes
	}
	return slices.Concat(parts...), api.OK
}
