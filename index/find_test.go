package index_test

import (
	"math"
	"math/rand"
	"slices"
	"testing"

	"satchel/api"
	"satchel/index"
)

func wantFound(t *testing.T, what string, l []api.Packed, id api.ID, number int, h api.Held) {
	t.Helper()
	if n, got, is := index.Find(l, id); n != number || got != h || !is {
		t.Errorf("%s: Find: %d, %v, %v; want %d, %v", what, n, got, is, number, h)
	}
}

func wantNotFound(t *testing.T, what string, l []api.Packed, id api.ID) {
	t.Helper()
	if n, got, is := index.Find(l, id); n != 0 || got != (api.Held{}) || is {
		t.Errorf("%s: Find: %d, %v, %v; want none", what, n, got, is)
	}
}

// wantAsTold says that all chunks are found, and told, as the words say it.
func wantAsTold(t *testing.T, what string, l []api.Packed) {
	t.Helper()
	ids := index.IDs(l)
	if want := toldIDs(l); !slices.Equal(ids, want) {
		t.Errorf("%s: IDs: %v; want %v", what, ids, want)
	}
	for _, id := range ids {
		number, h, is := toldFind(l, id)
		if !is {
			t.Errorf("%s: %v is told, and is not there", what, id)
		}
		wantFound(t, what, l, id, number, h)
	}
	wantNotFound(t, what, l, idOf(-1))
}

func TestFindOfNoPacks(t *testing.T) {
	for _, l := range [][]api.Packed{nil, {}, {packOf(1)}, manyOf(500, 0)} {
		wantNotFound(t, "no chunks", l, idOf(1))
		wantNotFound(t, "no chunks, and no ID", l, api.ID{})
		if ids := index.IDs(l); len(ids) != 0 {
			t.Errorf("IDs of no chunks: %v", ids)
		}
	}
}

func TestFindOfEach(t *testing.T) {
	l := []api.Packed{packOf(2, 1, 2, 3), packOf(5), packOf(7, 1), packOf(999999, 1024, 1)}
	for _, p := range l {
		for _, h := range p.L {
			wantFound(t, "one of a kind", l, h.ID, p.Number, h)
		}
	}
	wantNotFound(t, "no ID", l, api.ID{})
	for bit := range 128 {
		id := l[0].L[1].ID
		id[bit/8] ^= 1 << (bit % 8)
		wantNotFound(t, "another bit", l, id)
	}
}

func TestFindOfTheLastOne(t *testing.T) {
	id := idOf(1)
	a, b, c := api.Held{ID: id, At: 0, Size: 1}, api.Held{ID: id, At: 100, Size: 2}, api.Held{ID: id, At: 200, Size: 3}
	other := api.Held{ID: idOf(2), At: 300, Size: 4}
	wantFound(t, "the last of a pack", []api.Packed{{Number: 3, L: []api.Held{a, b, other}}}, id, 3, b)
	wantFound(t, "the last pack", []api.Packed{{Number: 3, L: []api.Held{a, b}}, {Number: 5, L: []api.Held{c}}}, id, 5, c)
	wantFound(t, "the last pack, the last one in it", []api.Packed{{Number: 3, L: []api.Held{c}}, {Number: 5, L: []api.Held{a, b, other}}, {Number: 6, L: []api.Held{other}}, {Number: 7}}, id, 5, b)
	wantFound(t, "one in the first pack alone", []api.Packed{{Number: 3, L: []api.Held{a}}, {Number: 5, L: []api.Held{other}}}, id, 3, a)
}

// Find and IDs are of any list, be it an index that may be or not.
func TestFindOfWhatMayNotBe(t *testing.T) {
	id := idOf(1)
	h := api.Held{ID: id, At: -5, Size: math.MaxInt}
	wantFound(t, "numbers that fall", []api.Packed{{Number: 9, L: []api.Held{{ID: id}}}, {Number: 3, L: []api.Held{h}}}, id, 3, h)
	wantFound(t, "number 0", []api.Packed{{L: []api.Held{h}}}, id, 0, h)
	wantFound(t, "below 0", []api.Packed{{Number: math.MinInt, Size: -1, L: []api.Held{h}}}, id, math.MinInt, h)
	wantFound(t, "places that fall", []api.Packed{{Number: 3, L: []api.Held{{ID: id, At: 100}, {ID: id, At: 50}}}}, id, 3, api.Held{ID: id, At: 50})
	wantFound(t, "no ID", []api.Packed{{Number: 3, L: []api.Held{{At: 7}}}}, api.ID{}, 3, api.Held{At: 7})
	wantAsTold(t, "500 packs of one number", slices.Repeat([]api.Packed{{Number: 3, L: []api.Held{h, {}, h, {ID: idOf(2)}}}}, 501))
	wantAsTold(t, "501 packs", manyOf(501, 600))
}

func TestIDsEachOnce(t *testing.T) {
	a, b, c := idOf(1), idOf(2), idOf(3)
	l := []api.Packed{{Number: 1, L: []api.Held{{ID: b}, {ID: a}, {ID: b}}}, {Number: 2}, {Number: 3, L: []api.Held{{ID: a}, {ID: c}, {ID: b}, {ID: api.ID{}}}}}
	if got := index.IDs(l); !slices.Equal(got, []api.ID{b, a, c, {}}) {
		t.Error(got)
	}
	if got := index.IDs(manyOf(500, 20000)); len(got) != 20000 || got[0] != idOf(1000) || got[19999] != idOf(500039) {
		t.Error(len(got))
	}
}

// A chunk of one ID is told once, whatever its Size and its place.
func TestIDsOfOtherSizes(t *testing.T) {
	l := []api.Packed{{Number: 1, L: []api.Held{{ID: idOf(1), At: 1, Size: 2}, {ID: idOf(1), At: 3, Size: 4}}}, {Number: 1, L: []api.Held{{ID: idOf(1), At: 5, Size: 6}}}}
	if got := index.IDs(l); !slices.Equal(got, []api.ID{idOf(1)}) {
		t.Error(got)
	}
}

func TestFindOfWhateverIndexes(t *testing.T) {
	for _, l := range indexes()[:10] {
		wantAsTold(t, "one that may be", l)
	}
	r := rand.New(rand.NewSource(7))
	for range 3000 {
		l := anIndex(r)
		wantAsTold(t, "one that may be", l)
		r.Shuffle(len(l), func(i, k int) { l[i], l[k] = l[k], l[i] })
		wantAsTold(t, "in any order", l)
	}
}
