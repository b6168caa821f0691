package manifest_test

import (
	"bytes"
	"math"
	"slices"
	"strconv"
	"strings"
	"testing"

	"satchel/api"
	"satchel/manifest"
	"satchel/tree"
)

// wantNoMake says which error Make tells, and that it tells nothing else.
func wantNoMake(t *testing.T, what string, client, command, tick int, l []api.Entry, want api.Errno) {
	t.Helper()
	m, chunks, err := manifest.Make(client, command, tick, l)
	if err != want || !same(m, api.Manifest{}) || len(chunks) != 0 {
		t.Errorf("Make of %s: %.100v, %d chunks, %v; want %v", what, m, len(chunks), err, want)
	}
}

func TestExampleOfMake(t *testing.T) {
	m, chunks, err := manifest.Make(1, 2, 3, made())
	x := idOf([]byte("x"))
	want := api.Manifest{Client: 1, Command: 2, Tick: 3, Items: []api.Item{{Path: "a", Kind: 1}, {Path: "a/b", Kind: 2, Size: 1, Chunks: []api.ID{x}}}}
	if err != api.OK || !same(m, want) || !slices.EqualFunc(chunks, []api.Chunk{{ID: x, Data: []byte("x")}}, sameChunk) {
		t.Errorf("%v, %v, %v", m, chunks, err)
	}
}

func TestMakeAsTheWordsSay(t *testing.T) {
	for i, l := range trees() {
		m, chunks, err := manifest.Make(i+1, i+100, i, l)
		want := api.Manifest{Client: i + 1, Command: i + 100, Tick: i, Items: toldItems(l)}
		if err != api.OK || !same(m, want) {
			t.Errorf("tree %d: %v, or another manifest", i, err)
		}
		if !slices.EqualFunc(chunks, toldChunks(l), sameChunk) {
			t.Errorf("tree %d: %d other chunks", i, len(chunks))
		}
		if err, at := manifest.Check(m); err != api.OK {
			t.Errorf("tree %d: Check: %v at %d", i, err, at)
		}
	}
}

func TestMakeOfNoTree(t *testing.T) {
	for _, l := range [][]api.Entry{
		made()[1:], {{}}, {dir("a/")}, {dir("a"), dir("a")}, {file("a", nil), file("a/b", nil)}, {{Path: "a", Kind: 4}}, {{Path: "a", Kind: 1, Data: []byte("x")}}, {link("a", "")}, {file("a", make([]byte, 1<<20+1))}, make([]api.Entry, 201),
	} {
		want, _ := tree.Check(l)
		if want == api.OK {
			t.Fatal("a tree")
		}
		wantNoMake(t, "no tree", 1, 2, 3, l, want)
		wantNoMake(t, "no tree, and no numbers", 0, -1, -1, l, want)
	}
}

func TestMakeOfNumbers(t *testing.T) {
	for _, n := range []int{math.MinInt, -api.MaxID, -1, 0, 1, 2, api.MaxID - 1, api.MaxID, api.MaxID + 1, 1 << 32, 1<<32 + 1, math.MaxInt} {
		for i, low := range []int{1, 1, 0} {
			numbers := []int{1, 1, 1}
			numbers[i] = n
			if n < low || n > 2147483647 {
				wantNoMake(t, "no number", numbers[0], numbers[1], numbers[2], made(), api.ErrRange)
				continue
			}
			m, chunks, err := manifest.Make(numbers[0], numbers[1], numbers[2], made())
			if err != api.OK || m.Client != numbers[0] || m.Command != numbers[1] || m.Tick != numbers[2] || m.Number != 0 || len(m.Items) != 2 || len(chunks) != 1 {
				t.Errorf("%v: %v, %v", numbers, m, err)
			}
		}
	}
}

// full tells a tree whose manifest has 2^18 bytes, by numbers below 128 and more besides.
func full(more int) []api.Entry {
	l := []api.Entry{{Path: "b", Kind: 2, Data: blocks(16100)}}
	for i := range 100 {
		l = append(l, api.Entry{Path: "l" + strconv.Itoa(100+i), Kind: 3, To: "x"})
	}
	left := 1<<18 + more - len(toldBytes(api.Manifest{Client: 1, Command: 1, Items: toldItems(l)}))
	for i := range l {
		if l[i].Kind != 3 || left == 0 {
			continue
		}
		n := min(left, 100) // a To of up to 127 bytes has how many they are in one byte
		l[i].To = strings.Repeat("x", 1+n)
		left -= n
	}
	return l
}

func TestMakeOfLongManifests(t *testing.T) {
	m, chunks, err := manifest.Make(127, 127, 127, full(0))
	if err != api.OK || len(m.Items) != 101 || len(m.Items[0].Chunks) != 16100 || len(chunks) != 16100 {
		t.Errorf("2^18 bytes: %d items, %d chunks, %v", len(m.Items), len(chunks), err)
	}
	b, err := manifest.Bytes(m)
	if err != api.OK || len(b) != 262144 {
		t.Errorf("%d bytes, %v", len(b), err)
	}
	wantNoMake(t, "2^18 + 1 bytes", 127, 127, 127, full(1), api.ErrLong)
	wantNoMake(t, "a client's number one byte longer", 128, 127, 127, full(0), api.ErrLong)
	wantNoMake(t, "a command's number one byte longer", 127, 128, 127, full(0), api.ErrLong)
	wantNoMake(t, "a tick one byte longer", 127, 127, 128, full(0), api.ErrLong)
	wantNoMake(t, "long, and no numbers", 0, 1, 1, full(1), api.ErrRange)
	if _, _, err := manifest.Make(127, 127, 128, full(-1)); err != api.OK {
		t.Errorf("a byte less: %v", err)
	}
}

func TestMakeOfMoreThanAManifestNames(t *testing.T) {
	wantNoMake(t, "16,384 chunks", 1, 1, 1, []api.Entry{file("a", blocks(16384))}, api.ErrLong)
	wantNoMake(t, "the same chunks twice", 1, 1, 1, []api.Entry{file("a", blocks(8200)), file("b", blocks(8200))}, api.ErrLong)
	var l []api.Entry
	for i := range 200 {
		l = append(l, file("f"+strconv.Itoa(1000+i), someBytes(7, 1<<20)))
	}
	wantNoMake(t, "two hundred files of 2^20 bytes", 1, 1, 1, l, api.ErrLong)
	l[0].Mode = 512
	wantNoMake(t, "these, and no mode", 1, 1, 1, l, api.ErrArg)
}

func TestMakeIsNewMemory(t *testing.T) {
	l := some()
	for i, e := range l {
		l[i].Data = append(slices.Clone(e.Data), "spare"...)[:len(e.Data)]
	}
	m, chunks, _ := manifest.Make(1, 2, 3, l)
	wantOwnLists(t, "Make", m)
	wantApart(t, "Make's chunks", len(chunks),
		func(i int) {
			b := chunks[i].Data[:cap(chunks[i].Data)]
			for k := range b {
				b[k] ^= 255
			}
		},
		func(i int) string { return string(chunks[i].Data) })
	if !slices.EqualFunc(l, some(), sameEntry) {
		t.Error("what was handed in was changed with an answer")
	}
	for _, e := range l {
		if n := len(e.Data); string(e.Data[n:n+5]) != "spare" {
			t.Errorf("the spare room of %s: %q", e.Path, e.Data[n:n+5])
		}
	}
	m, chunks, _ = manifest.Make(1, 2, 3, l)
	for i, e := range l {
		for k := range e.Data {
			e.Data[k] ^= 255
		}
		l[i] = api.Entry{}
	}
	if !slices.EqualFunc(m.Items, toldItems(some()), sameItem) || !slices.EqualFunc(chunks, toldChunks(some()), sameChunk) {
		t.Error("an answer was changed with what was handed in")
	}
}

// Two calls tell the same: nothing is kept.
func TestMakeAgain(t *testing.T) {
	for range 2 {
		_, chunks, _ := manifest.Make(1, 2, 3, made())
		if len(chunks) != 1 || !bytes.Equal(chunks[0].Data, []byte("x")) {
			t.Error(chunks)
		}
	}
}
