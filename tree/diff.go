package tree

import (
	"slices"

	"satchel/api"
	"satchel/path"
)

// Same tells whether two lists have the same entries, in the same order.
func Same(a, b []api.Entry) bool { return slices.EqualFunc(a, b, alike) }

// Diff tells which paths come to a tree, go out of it, and change, till it is another one.
func Diff(a, b []api.Entry) ([]string, []string, []string) {
	if !isTree(a) || !isTree(b) {
		return nil, nil, nil
	}
	var added, gone, changed []string
	i, j := 0, 0
	for i < len(a) && j < len(b) {
		switch path.Compare(a[i].Path, b[j].Path) {
		case -1:
			gone = append(gone, a[i].Path)
			i++
		case 1:
			added = append(added, b[j].Path)
			j++
		default:
			if !alike(a[i], b[j]) {
				changed = append(changed, a[i].Path)
			}
			i++
			j++
		}
	}
	return append(added, paths(b[j:])...), append(gone, paths(a[i:])...), changed
}

// paths tells the entries' paths.
func paths(l []api.Entry) []string {
	var s []string
	for _, e := range l {
		s = append(s, e.Path)
	}
	return s
}
