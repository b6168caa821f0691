package index

import (
	"slices"

	"satchel/api"
	"satchel/pack"
)

// sized is by what a pack is known again: its number, and how many bytes its file has.
type sized struct{ number, size int }

// Merge tells the index of some files, that of elder ones being known, and which files it had to scan.
func Merge(l []api.Packed, files []api.Filed) ([]api.Packed, []int) {
	var merged []api.Packed
	var scanned []int
	known := firsts(l)
	last := 0
	for _, f := range files {
		if !isNumber(f.Number) || f.Number <= last {
			continue
		}
		last = f.Number
		p := api.Packed{Number: f.Number, Size: len(f.B)}
		if at, is := known[sized{p.Number, p.Size}]; is {
			p.L = slices.Clone(l[at].L)
		} else {
			p.L, _, _, _ = pack.Scan(f.B)
			scanned = append(scanned, p.Number)
		}
		merged = append(merged, p)
	}
	return merged, scanned
}

// firsts tells where the first pack of each number and Size stands.
func firsts(l []api.Packed) map[sized]int {
	places := map[sized]int{}
	for at, p := range l {
		x := sized{p.Number, p.Size}
		if _, is := places[x]; !is {
			places[x] = at
		}
	}
	return places
}
