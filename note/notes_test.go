package note_test

import (
	"bytes"
	"math/rand"
	"slices"

	"satchel/api"
)

// row is a row of the chapter's table: a kind, its name, and how many numbers, IDs and bytes there are at least and at most.
type row struct {
	kind                                          int
	name                                          string
	leastN, mostN, leastID, mostID, leastB, mostB int
}

func table() []row {
	return []row{
		{1, "begin", 3, 3, 0, 0, 0, 0},
		{2, "part", 1, 1, 0, 0, 1, 1000},
		{3, "query", 0, 0, 1, 16, 0, 0},
		{4, "give", 0, 0, 1, 1, 1, 1024},
		{5, "commit", 0, 0, 0, 0, 0, 0},
		{6, "abort", 0, 0, 0, 0, 0, 0},
		{7, "list", 0, 0, 0, 0, 0, 0},
		{8, "restore", 1, 1, 0, 0, 0, 0},
		{9, "more", 1, 1, 0, 0, 0, 0},
		{10, "fetch", 0, 0, 1, 16, 0, 0},
		{11, "verify", 1, 1, 0, 0, 0, 0},
		{12, "forget", 1, 1, 0, 0, 0, 0},
		{13, "prune", 0, 0, 0, 0, 0, 0},
		{14, "usage", 0, 0, 0, 0, 0, 0},
		{15, "ping", 1, 1, 0, 0, 0, 0},
		{16, "ready", 1, 1, 0, 0, 0, 0},
		{17, "have", 1, 16, 0, 0, 0, 0},
		{18, "took", 0, 0, 1, 1, 0, 0},
		{19, "done", 1, 1, 0, 0, 0, 0},
		{20, "fail", 2, 2, 0, 0, 0, 0},
		{21, "snaps", 0, 128, 0, 0, 0, 0},
		{22, "piece", 2, 2, 0, 0, 0, 1000},
		{23, "chunk", 0, 0, 1, 1, 1, 1024},
		{24, "count", 2, 2, 0, 0, 0, 0},
	}
}

// someNumbers tells numbers of all lengths as bytes, the edges of each among them.
func someNumbers(seed int64, n int) []int {
	edges := []int{0, 1, 127, 128, 16383, 16384, 1<<21 - 1, 1 << 21, 1<<28 - 1, 1 << 28, api.MaxID - 1, api.MaxID}
	r := rand.New(rand.NewSource(seed))
	var l []int
	for range n {
		l = append(l, edges[r.Intn(len(edges))])
	}
	return l
}

func someBytes(seed int64, n int) []byte {
	b := make([]byte, n)
	rand.New(rand.NewSource(seed)).Read(b)
	return b
}

func someIDs(seed int64, n int) []api.ID {
	var l []api.ID
	for i := range n {
		l = append(l, api.ID(someBytes(seed*100+int64(i), 16)))
	}
	return l
}

// noteOf tells a note of a kind, of so many numbers, IDs and bytes.
func noteOf(kind, numbers, ids, b int) api.Note {
	seed := int64(kind*1000 + numbers*100 + ids*10 + b)
	return api.Note{Kind: kind, N: someNumbers(seed, numbers), IDs: someIDs(seed, ids), B: someBytes(seed, b)}
}

// edges tells how many there are about the least and the most.
func edges(least, most int) []int {
	l := []int{least - 1, least, least + 1, most - 1, most, most + 1}
	l = slices.DeleteFunc(l, func(n int) bool { return n < 0 })
	slices.Sort(l)
	return slices.Compact(l)
}

// aboutAll tells notes of all kinds that have the least and the most of each thing, and one fewer and one more.
func aboutAll() []api.Note {
	var all []api.Note
	for _, k := range table() {
		for _, n := range edges(k.leastN, k.mostN) {
			for _, ids := range edges(k.leastID, k.mostID) {
				for _, b := range edges(k.leastB, k.mostB) {
					all = append(all, noteOf(k.kind, n, ids, b))
				}
			}
		}
	}
	return all
}

// good tells those of them that may be.
func good() []api.Note {
	return slices.DeleteFunc(aboutAll(), func(x api.Note) bool { return told(x) != api.OK })
}

// told tells what is wrong with a note as the document's words say it.
func told(x api.Note) api.Errno {
	at := slices.IndexFunc(table(), func(k row) bool { return k.kind == x.Kind })
	if at < 0 {
		return api.ErrArg
	}
	k := table()[at]
	if len(x.N) < k.leastN || len(x.N) > k.mostN || len(x.IDs) < k.leastID || len(x.IDs) > k.mostID || len(x.B) < k.leastB || len(x.B) > k.mostB {
		return api.ErrRange
	}
	for _, n := range x.N {
		if n < 0 || n > 2147483647 {
			return api.ErrRange
		}
	}
	return api.OK
}

// toldNumber tells a number's bytes in another way than the program.
func toldNumber(n int) []byte {
	b := []byte{byte(n % 128)}
	for n /= 128; n > 0; n /= 128 {
		b = append([]byte{byte(n%128) + 128}, b...)
	}
	return b
}

// toldBytes tells a note's bytes as the document's words say it.
func toldBytes(x api.Note) []byte {
	l := [][]byte{toldNumber(x.Kind), toldNumber(len(x.N))}
	for _, n := range x.N {
		l = append(l, toldNumber(n))
	}
	l = append(l, toldNumber(len(x.IDs)))
	for _, id := range x.IDs {
		l = append(l, id[:])
	}
	return slices.Concat(append(l, toldNumber(len(x.B)), x.B)...)
}

// same tells whether two notes are: no list and an empty one are the same.
func same(a, b api.Note) bool {
	return a.Kind == b.Kind && slices.Equal(a.N, b.N) && slices.Equal(a.IDs, b.IDs) && bytes.Equal(a.B, b.B)
}

func isZero(x api.Note) bool { return same(x, api.Note{}) }
