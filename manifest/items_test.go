package manifest_test

import (
	"bytes"
	"crypto/sha256"
	"math/rand"
	"slices"
	"strconv"
	"strings"
	"testing"

	"satchel/api"
	"satchel/chunk"
	"satchel/path"
)

// idOf tells the ID of bytes in another way than the program.
func idOf(b []byte) api.ID {
	sum := sha256.Sum256(b)
	return api.ID(sum[:16])
}

// ids tells so many IDs, each another one.
func ids(n int) []api.ID {
	var l []api.ID
	for i := range n {
		l = append(l, idOf([]byte(strconv.Itoa(i))))
	}
	return l
}

func dirItem(s string) api.Item      { return api.Item{Path: s, Kind: 1, Mode: 493} }
func linkItem(s, to string) api.Item { return api.Item{Path: s, Kind: 3, Mode: 511, To: to} }
func fileItem(s string, size, chunks int) api.Item {
	return api.Item{Path: s, Kind: 2, Mode: 420, Size: size, Chunks: ids(chunks)}
}

func dir(s string) api.Entry      { return api.Entry{Path: s, Kind: 1, Mode: 493} }
func link(s, to string) api.Entry { return api.Entry{Path: s, Kind: 3, Mode: 511, To: to} }
func file(s string, data []byte) api.Entry {
	return api.Entry{Path: s, Kind: 2, Mode: 420, Data: data}
}

// of tells a manifest of items whose numbers may be.
func of(l ...api.Item) api.Manifest {
	return api.Manifest{Client: 1, Command: 2, Number: 3, Tick: 4, Items: l}
}

// made tells the tree of the chapter's examples.
func made() []api.Entry {
	return []api.Entry{{Path: "a", Kind: 1}, {Path: "a/b", Kind: 2, Data: []byte("x")}}
}

// someBytes tells bytes that look like chance.
func someBytes(seed int64, n int) []byte {
	b := make([]byte, n)
	rand.New(rand.NewSource(seed)).Read(b)
	return b
}

// blocks tells bytes that are cut each 64: so many blocks, each another one that ends with the same sixteen bytes, behind which a chunk ends.
func blocks(n int) []byte {
	begin, end := someBytes(1, 40), lowEnd()
	var b []byte
	for i := range n {
		b = append(append(b, begin...), "        "...)
		copy(b[len(b)-8:], strconv.Itoa(i))
		b = append(b, end...)
	}
	return b
}

// lowEnd tells sixteen bytes behind which a chunk ends that is long enough.
func lowEnd() []byte {
	for i := int64(0); ; i++ {
		end := someBytes(i, 16)
		if chunk.Cut(slices.Concat(make([]byte, 48), end, []byte{0}))[0] == 64 {
			return end
		}
	}
}

// some tells a tree of all kinds, of files of no bytes, of one, of many, and of the same once more.
func some() []api.Entry {
	long := someBytes(1, 20000)
	return []api.Entry{
		dir("a"), file("a/b", long), file("a/c", nil), dir("a/d"), link("a/d/e", "../b"), file("a!", long[:10000]), {Path: "f", Kind: 2, Data: []byte("x")}, {Path: "g", Kind: 2, Mode: 511, Data: []byte("x")}, file("h", slices.Concat(long, long)), file("i", blocks(5)), link("j", strings.Repeat("j", 200)),
	}
}

// trees tells some trees.
func trees() [][]api.Entry {
	all := [][]api.Entry{nil, made(), some()}
	for n := range some() {
		all = append(all, some()[:n])
	}
	var wide []api.Entry
	for i := range 200 {
		wide = append(wide, file("f"+strconv.Itoa(1000+i), someBytes(int64(i), i*7)))
	}
	return append(all, wide, []api.Entry{file("big", someBytes(3, 1<<20))})
}

// toldItem tells the item of an entry as the document's words say it.
func toldItem(e api.Entry) api.Item {
	x := api.Item{Path: e.Path, Kind: e.Kind, Mode: e.Mode, Size: len(e.Data), To: e.To}
	for _, b := range chunk.Split(e.Data) {
		x.Chunks = append(x.Chunks, idOf(b))
	}
	return x
}

func toldItems(l []api.Entry) []api.Item {
	var all []api.Item
	for _, e := range l {
		all = append(all, toldItem(e))
	}
	return all
}

// toldChunks tells the chunks of a tree as the document's words say it.
func toldChunks(l []api.Entry) []api.Chunk {
	var all []api.Chunk
	for _, e := range l {
		for _, b := range chunk.Split(e.Data) {
			id := idOf(b)
			if !slices.ContainsFunc(all, func(c api.Chunk) bool { return c.ID == id }) {
				all = append(all, api.Chunk{ID: id, Data: b})
			}
		}
	}
	return all
}

// mayBe tells whether an item's kind, mode and target go together, as the document's words say it.
func mayBe(x api.Item) bool {
	isLink := x.Kind == 3
	return x.Kind >= 1 && x.Kind <= 3 && x.Mode >= 0 && x.Mode <= 511 &&
		(isLink || x.To == "") && (!isLink || len(x.To) >= 1 && len(x.To) <= 200)
}

// maySize tells whether an item's size and chunks go together, as the document's words say it.
func maySize(x api.Item) bool {
	n := int64(len(x.Chunks))
	size := int64(x.Size)
	if size < 0 || size > 1048576 || size != 0 && x.Kind != 2 {
		return false
	}
	return n*1024 >= size && (n-1)*64 < size || size == 0 && n == 0
}

// told tells what is wrong with items as the document's words say it.
func told(l []api.Item) (api.Errno, int) {
	for at, x := range l {
		parent, has := path.Parent(x.Path)
		isParent := func(x api.Item) bool { return x.Path == parent && x.Kind == 1 }
		switch {
		case path.Check(x.Path).Err != api.OK:
			return api.ErrBytes, at
		case !mayBe(x):
			return api.ErrArg, at
		case !maySize(x):
			return api.ErrRange, at
		case at > 0 && path.Compare(l[at-1].Path, x.Path) != -1:
			return api.ErrThere, at
		case has && !slices.ContainsFunc(l[:at], isParent):
			return api.ErrMissing, at
		}
	}
	return api.OK, 0
}

// items are items that may be, and such as may not, several of them of the same path.
func items() []api.Item {
	return []api.Item{
		dirItem("a"), fileItem("a", 0, 0), linkItem("a", "b"), fileItem("a/b", 1, 1), fileItem("a!", 64, 1), fileItem("b", 65, 2), linkItem("b", "a"),
		{Path: "a/", Kind: 9, Mode: 512, Size: -1, To: "a"}, {Path: "a b", Kind: 1, Size: 7}, {Path: "a", Kind: 4, Size: 1}, {Path: "a/b", Kind: 2, Mode: -1, Size: 1}, {Path: "c", Kind: 3, Size: 3}, {Path: "a", Kind: 2, To: "b"},
		{Path: "a", Kind: 1, Size: 1}, fileItem("a", 1, 0), fileItem("a/b", 0, 1), fileItem("b", 64, 2), {Path: "a/b", Kind: 3, To: "c", Size: 64, Chunks: ids(1)},
	}
}

// lists tells all lists of up to so many items.
func lists(most int) [][]api.Item {
	all := [][]api.Item{nil}
	for begin := 0; most > 0; most-- {
		end := len(all)
		for _, l := range all[begin:end] {
			for _, x := range items() {
				all = append(all, append(slices.Clone(l), x))
			}
		}
		begin = end
	}
	return all
}

// same tells whether two manifests are alike in each field, lists of none and no lists being alike.
func same(a, b api.Manifest) bool {
	return a.Client == b.Client && a.Command == b.Command && a.Number == b.Number && a.Tick == b.Tick && slices.EqualFunc(a.Items, b.Items, sameItem)
}

func sameItem(a, b api.Item) bool {
	return a.Path == b.Path && a.Kind == b.Kind && a.Mode == b.Mode && a.Size == b.Size && a.To == b.To && slices.Equal(a.Chunks, b.Chunks)
}

func sameEntry(a, b api.Entry) bool {
	return a.Path == b.Path && a.Kind == b.Kind && a.Mode == b.Mode && bytes.Equal(a.Data, b.Data) && a.To == b.To
}

func sameChunk(a, b api.Chunk) bool { return a.ID == b.ID && bytes.Equal(a.Data, b.Data) }

// copied tells the same manifest in memory of its own.
func copied(m api.Manifest) api.Manifest {
	var l []api.Item
	for _, x := range m.Items {
		x.Chunks = append([]api.ID(nil), x.Chunks...)
		l = append(l, x)
	}
	m.Items = l
	return m
}

// roomy tells the same manifest with spare room behind its items and behind their chunks, which holds others.
func roomy(m api.Manifest) api.Manifest {
	m = copied(m)
	for at, x := range m.Items {
		m.Items[at].Chunks = append(x.Chunks, spareID())[:len(x.Chunks)]
	}
	m.Items = append(m.Items, spareItem())[:len(m.Items)]
	return m
}

func spareID() api.ID { return api.ID{15: 77} }
func spareItem() api.Item {
	return api.Item{Path: "spare", Kind: 2, Size: 1, Chunks: []api.ID{spareID()}}
}

// wantRoomUntouched says that spare room holds what roomy put there.
func wantRoomUntouched(t *testing.T, what string, m api.Manifest) {
	t.Helper()
	if n := len(m.Items); !sameItem(m.Items[n : n+1][0], spareItem()) {
		t.Errorf("%s: the items' spare room: %v", what, m.Items[n:n+1])
	}
	for _, x := range m.Items {
		if n := len(x.Chunks); x.Chunks[n : n+1][0] != spareID() {
			t.Errorf("%s: the spare room of %s: %v", what, x.Path, x.Chunks[n:n+1])
		}
	}
}

// spoil changes all that a manifest holds, the spare room too.
func spoil(m api.Manifest) {
	l := m.Items[:cap(m.Items)]
	for i := range l {
		c := l[i].Chunks[:cap(l[i].Chunks)]
		for k := range c {
			c[k] = api.ID{1, 2, 3}
		}
		l[i] = api.Item{Path: "spoilt", Kind: 7, Size: 7}
	}
}

// wantApart spoils each of the n lists of an answer, one by one, and says that no other one is changed with it; tell tells what a list holds.
func wantApart(t *testing.T, what string, n int, spoil func(i int), tell func(i int) string) {
	t.Helper()
	for i := range n {
		var was []string
		for k := range n {
			was = append(was, tell(k))
		}
		spoil(i)
		for k := range n {
			if k != i && tell(k) != was[k] {
				t.Errorf("%s: list %d was changed with list %d", what, k, i)
			}
		}
	}
}

// wantOwnLists says that no two items' chunks share memory.
func wantOwnLists(t *testing.T, what string, m api.Manifest) {
	t.Helper()
	spoilOne := func(i int) {
		c := m.Items[i].Chunks[:cap(m.Items[i].Chunks)]
		for k := range c {
			c[k][3] ^= 255
		}
	}
	tell := func(i int) string {
		var s []byte
		for _, id := range m.Items[i].Chunks {
			s = append(s, id[:]...)
		}
		return string(s)
	}
	wantApart(t, what, len(m.Items), spoilOne, tell)
}
