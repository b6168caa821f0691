package manifest

import (
	"slices"

	"satchel/api"
	"satchel/tree"
)

// checkItems tells what is wrong with items, and with which. All but their sizes is a tree's own affair; a size that may not be goes ahead of the item's place among the others, but behind what else is wrong with the item.
func checkItems(l []api.Item) (api.Errno, int) {
	err, at := tree.Check(bare(l))
	odd := slices.IndexFunc(l, isOdd)
	switch {
	case odd < 0:
		return err, at
	case err == api.OK, odd < at, odd == at && isOfPlace(err):
		return api.ErrRange, odd
	}
	return err, at
}

// isOfPlace tells whether an error is one of an entry's place among the others.
func isOfPlace(err api.Errno) bool { return err == api.ErrThere || err == api.ErrMissing }

// isOdd tells whether an item has not as many bytes as its kind may have, or not as many chunks as so many bytes may have.
func isOdd(x api.Item) bool {
	if x.Size < 0 || x.Size > api.MaxFile || x.Size > 0 && x.Kind != api.File {
		return true
	}
	n := len(x.Chunks)
	return n < pieces(x.Size, api.MaxChunk) || n > pieces(x.Size, api.MinChunk)
}

// pieces tells how many pieces of at most a size so many bytes are.
func pieces(n, size int) int { return (n + size - 1) / size }

// bare tells items as entries without bytes.
func bare(l []api.Item) []api.Entry {
	var t []api.Entry
	for _, x := range l {
		t = append(t, api.Entry{Path: x.Path, Kind: x.Kind, Mode: x.Mode, To: x.To})
	}
	return t
}
