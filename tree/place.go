package tree

import (
	"slices"

	"satchel/api"
	"satchel/path"
)

// place tells where in entries that rise the one of a path stands, or where it belongs.
func place(l []api.Entry, s string) (int, bool) {
	return slices.BinarySearchFunc(l, s, func(e api.Entry, s string) int { return path.Compare(e.Path, s) })
}

// checkPlace tells what is wrong with a path behind entries that are a tree.
func checkPlace(ahead []api.Entry, s string) api.Errno {
	if n := len(ahead); n > 0 && path.Compare(ahead[n-1].Path, s) >= 0 {
		return api.ErrThere
	}
	dir, in := path.Parent(s)
	if !in {
		return api.OK
	}
	if at, is := place(ahead, dir); !is || ahead[at].Kind != api.Dir {
		return api.ErrMissing
	}
	return api.OK
}

// behind tells the entries behind the first one and behind all that lies under it, which stands right behind it.
func behind(l []api.Entry) []api.Entry {
	rest := l[1:]
	for len(rest) > 0 && path.Under(rest[0].Path, l[0].Path) {
		rest = rest[1:]
	}
	return rest
}
