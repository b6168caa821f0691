package index_test

import (
	"bytes"
	"slices"
	"testing"

	"satchel/api"
	"satchel/index"
)

// spare is a chunk that stands in spare room.
var spare = api.Held{ID: api.ID{9, 9, 9}, At: 99, Size: 9}

// roomy tells the same index in memory of its own, with spare room behind each list, which holds other things.
func roomy(l []api.Packed) []api.Packed {
	l = slices.Clone(l)
	for i, p := range l {
		l[i].L = append(slices.Clone(p.L), spare, spare)[:len(p.L)]
	}
	extra := packOf(999998, 1)
	return append(l, extra, extra)[:len(l)]
}

// wantRoomUntouched says that what stands in the spare room is as it was.
func wantRoomUntouched(t *testing.T, what string, l []api.Packed) {
	t.Helper()
	for _, p := range l {
		if room := p.L[len(p.L) : len(p.L)+2]; room[0] != spare || room[1] != spare {
			t.Errorf("%s: the spare room of pack %d is %v", what, p.Number, room)
		}
	}
	if room := l[len(l) : len(l)+2]; !same(room, []api.Packed{packOf(999998, 1), packOf(999998, 1)}) {
		t.Errorf("%s: the spare room of the index is %v", what, room)
	}
}

// spoil makes all of an index other, its spare room too.
func spoil(l []api.Packed) {
	l = l[:cap(l)]
	for i, p := range l {
		held := p.L[:cap(p.L)]
		for k := range held {
			held[k] = api.Held{ID: api.ID{7, 7}, At: -7, Size: 7777}
		}
		l[i].Number, l[i].Size = -1, -1
	}
}

// spoilBytes turns all bits of bytes, and of the spare room behind them.
func spoilBytes(b []byte) {
	b = b[:cap(b)]
	for i := range b {
		b[i] ^= 255
	}
}

// some tells an index with full and empty packs.
func some() []api.Packed { return []api.Packed{packOf(3, 1, 2, 3), packOf(4), packOf(9, 100)} }

func TestNothingHandedInIsChanged(t *testing.T) {
	l := roomy(some())
	l[2].L = append(l[2].L[:0], l[0].L[1], spare, spare)[:1]
	was := copied(l)
	file := api.Filed{Number: 3, B: someBytes(1, 100)}
	held := slices.Clone(file.B)
	files := append([]api.Filed{file, {Number: 4}}, api.Filed{Number: 5}, api.Filed{Number: 6})[:2]
	index.Check(l)
	index.Bytes(l)
	index.Find(l, l[0].L[1].ID)
	index.Find(l, api.ID{})
	index.IDs(l)
	got, scanned := index.Merge(l, files)
	if !same(l, was) || !bytes.Equal(file.B, held) || files[:4][3].Number != 6 || files[0].Number != 3 {
		t.Error("what was handed in is another thing")
	}
	if len(got) != 2 || len(scanned) != 1 {
		t.Errorf("files in the spare room are merged: %v, %v", got, scanned)
	}
	wantRoomUntouched(t, "all calls", l)
}

// What stands in spare room is not there.
func TestSpareRoomIsNotRead(t *testing.T) {
	l := roomy(some())
	wantNotFound(t, "a chunk in spare room", l, spare.ID)
	wantNotFound(t, "a pack in spare room", l, packOf(999998, 1).L[0].ID)
	wantNotFound(t, "no packs", l[:0], l[0].L[0].ID)
	if ids := index.IDs(l); !slices.Equal(ids, toldIDs(some())) {
		t.Errorf("IDs: %v", ids)
	}
	wantThereAndBack(t, "with spare room", l)
	b := toldBytes(some())
	for k := range b {
		wantNone(t, "the rest in spare room", b[:k])
	}
	got, scanned := index.Merge(l[:0], []api.Filed{{Number: 3, B: make([]byte, l[0].Size)}})
	if len(got) != 1 || len(got[0].L) != 0 || len(scanned) != 1 {
		t.Errorf("a pack in spare room is known: %v, %v", got, scanned)
	}
}

func TestBytesShareNoMemory(t *testing.T) {
	l := some()
	b, _ := index.Bytes(l)
	again, _ := index.Bytes(l)
	want := toldBytes(l)
	spoilBytes(b)
	if !same(l, some()) || !bytes.Equal(again, want) {
		t.Error("an index, or its bytes, are others when bytes are that were told of it")
	}
	spoil(l)
	if !bytes.Equal(again, want) {
		t.Error("an index's bytes are others when it is")
	}
}

func TestReadSharesNoMemory(t *testing.T) {
	b := toldBytes(some())
	l, _ := index.Read(b)
	again, _ := index.Read(b)
	spoil(l)
	if !bytes.Equal(b, toldBytes(some())) || !same(again, some()) {
		t.Error("bytes, or an index of them, are others when an index is that was read of them")
	}
	spoilBytes(b)
	if !same(again, some()) {
		t.Error("an index is another one when the bytes are of which it was read")
	}
}

// No two lists of an answer share memory, spare room neither.
func TestListsOfAnAnswerShareNoMemory(t *testing.T) {
	all := some()
	all = append(all, packOf(20, 1, 1, 1, 1, 1), packOf(21, 5, 5, 5))
	read, _ := index.Read(toldBytes(all))
	files := []api.Filed{{Number: 1, B: []byte{1}}}
	for _, p := range all {
		files = append(files, api.Filed{Number: p.Number, B: make([]byte, p.Size)})
	}
	scanned := fileOf(t, 30, []byte{1}, []byte{2}, []byte{3})
	merged, _ := index.Merge(all, append(files, scanned, fileOf(t, 31, []byte{4})))
	for _, l := range [][]api.Packed{read, merged} {
		want := copied(l)
		for i := range l {
			spoil(l[i : i+1 : i+1])
			for k, p := range l[i+1:] {
				if !samePack(p, want[i+1+k]) {
					t.Errorf("pack %d is another one when pack %d is", p.Number, want[i].Number)
				}
			}
		}
	}
}

func TestIDsShareNoMemory(t *testing.T) {
	l := some()
	ids := index.IDs(l)
	again := index.IDs(l)
	clear(ids[:cap(ids)])
	if !same(l, some()) || !slices.Equal(again, toldIDs(some())) {
		t.Error("an index, or its IDs, are others when IDs are that were told of it")
	}
	spoil(l)
	if !slices.Equal(again, toldIDs(some())) {
		t.Error("IDs are others when their index is")
	}
}

func TestMergeSharesNoMemory(t *testing.T) {
	l := roomy(some())
	chunk := []byte{1, 2, 3}
	files := []api.Filed{{Number: 3, B: make([]byte, l[0].Size)}, {Number: 4}, fileOf(t, 9, chunk)}
	want := []api.Packed{packOf(3, 1, 2, 3), packOf(4), scannedAs(9, chunk)}
	got, numbers := index.Merge(l, files)
	again, its := index.Merge(l, files)
	spoil(got)
	clear(numbers[:cap(numbers)])
	if !same(l, some()) || !same(again, want) || !slices.Equal(its, []int{9}) {
		t.Error("an index that was handed in, or merged, is another one when one is that was merged")
	}
	wantRoomUntouched(t, "Merge", l)
	spoil(l)
	for i := range files {
		spoilBytes(files[i].B)
		files[i] = api.Filed{}
	}
	if !same(again, want) || !slices.Equal(its, []int{9}) {
		t.Error("what is merged is another thing when the files or the index are of which it was")
	}
}

// Packs that share their lists when they are handed in share none when they are told.
func TestMergeOfPacksThatShareMemory(t *testing.T) {
	p := packOf(3, 1, 1)
	q := p
	q.Number = 4
	got, _ := index.Merge([]api.Packed{p, q}, []api.Filed{{Number: 3, B: make([]byte, p.Size)}, {Number: 4, B: make([]byte, q.Size)}})
	spoil(got[:1:1])
	if !samePack(got[1], q) || !samePack(p, packOf(3, 1, 1)) {
		t.Error("two packs share a list")
	}
}
