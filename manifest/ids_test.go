package manifest_test

import (
	"math"
	"slices"
	"testing"

	"satchel/api"
	"satchel/manifest"
)

func TestIDs(t *testing.T) {
	a, b, c := api.ID{1}, api.ID{15: 1}, api.ID{}
	with := func(l ...api.ID) api.Item { return api.Item{Chunks: l} }
	for i, x := range []struct {
		l    []api.Item
		want []api.ID
	}{
		{nil, nil},
		{[]api.Item{{}, dirItem("a")}, nil},
		{[]api.Item{with(a)}, []api.ID{a}},
		{[]api.Item{with(a, a)}, []api.ID{a}},
		{[]api.Item{with(b, a, b)}, []api.ID{b, a}},
		{[]api.Item{with(b, a), with(), with(a, c, b, c)}, []api.ID{b, a, c}},
		{[]api.Item{with(c), with(b), with(a), with(b), with(c)}, []api.ID{c, b, a}},
		{[]api.Item{{Path: "/", Kind: 1, Size: -5, Chunks: []api.ID{b, a}}, {Kind: 3, Chunks: []api.ID{a, c}}}, []api.ID{b, a, c}},
	} {
		for _, m := range []api.Manifest{of(x.l...), {Client: -1, Items: x.l}} {
			if got := manifest.IDs(m); !slices.Equal(got, x.want) {
				t.Errorf("%d: %v; want %v", i, got, x.want)
			}
		}
	}
	many := slices.Concat(ids(20000), ids(20001))
	if got := manifest.IDs(of(with(many...), with(many...))); !slices.Equal(got, ids(20001)) {
		t.Errorf("of many: %d", len(got))
	}
}

// Of a tree's manifest the IDs are those of its chunks.
func TestIDsOfTrees(t *testing.T) {
	for _, l := range trees() {
		m, chunks, err := manifest.Make(1, 2, 3, l)
		if err != api.OK {
			t.Fatal(err)
		}
		got := manifest.IDs(m)
		if !slices.EqualFunc(got, chunks, func(id api.ID, c api.Chunk) bool { return c.ID == id }) {
			t.Errorf("%d IDs of %d chunks, or others", len(got), len(chunks))
		}
	}
}

func TestIDsAreNewMemory(t *testing.T) {
	m := roomy(of(fileItem("a", 128, 2), fileItem("b", 128, 2)))
	was := copied(m)
	l := manifest.IDs(m)
	kept := manifest.IDs(m)
	spoilt := l[:cap(l)]
	for i := range spoilt {
		spoilt[i] = api.ID{9}
	}
	if !same(m, was) || !slices.Equal(kept, ids(2)) {
		t.Error("changed with an answer")
	}
	wantRoomUntouched(t, "IDs", m)
	spoil(m)
	if !slices.Equal(kept, ids(2)) {
		t.Error("an answer was changed with what was handed in")
	}
}

func TestNumbered(t *testing.T) {
	for _, m := range []api.Manifest{{}, of(), of(dirItem("a"), fileItem("a/b", 100, 2), linkItem("c", "a")), {Client: -1, Command: -2, Number: -3, Tick: -4, Items: []api.Item{{Size: -1}, {}}}} {
		for _, n := range []int{math.MinInt, -1, 0, 1, 3, api.MaxID, api.MaxID + 1, math.MaxInt} {
			was := copied(m)
			want := copied(m)
			want.Number = n
			if got := manifest.Numbered(m, n); !same(got, want) {
				t.Errorf("Numbered(%v, %d): %v", m, n, got)
			}
			if !same(m, was) {
				t.Errorf("what was handed in was changed: %v", m)
			}
		}
	}
}

func TestNumberedIsNewMemory(t *testing.T) {
	m := roomy(of(fileItem("a", 128, 2), fileItem("b", 128, 1), dirItem("c")))
	was := copied(m)
	got := manifest.Numbered(m, 3)
	wantRoomUntouched(t, "Numbered", m)
	if cap(got.Items) > len(got.Items) && got.Items[:len(got.Items)+1][3].Path == "spare" {
		t.Error("spare room was handed out")
	}
	wantOwnLists(t, "Numbered", manifest.Numbered(m, 3))
	spoil(got)
	if !same(m, was) {
		t.Error("what was handed in was changed with an answer")
	}
	wantRoomUntouched(t, "Numbered", m)
	kept := manifest.Numbered(m, 3)
	spoil(m)
	if !same(kept, was) {
		t.Error("an answer was changed with what was handed in")
	}
}
