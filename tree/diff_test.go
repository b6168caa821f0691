package tree_test

import (
	"slices"
	"testing"

	"satchel/api"
	"satchel/path"
	"satchel/tree"
)

// wantDiff says what is added, gone and changed from a tree to another one, and the other way round.
func wantDiff(t *testing.T, what string, a, b []api.Entry, added, gone, changed []string) {
	t.Helper()
	x, y, z := tree.Diff(a, b)
	if !slices.Equal(x, added) || !slices.Equal(y, gone) || !slices.Equal(z, changed) {
		t.Errorf("Diff: %s: %.200q, %.200q, %.200q; want %.200q, %.200q, %.200q", what, x, y, z, added, gone, changed)
	}
	x, y, z = tree.Diff(b, a)
	if !slices.Equal(x, gone) || !slices.Equal(y, added) || !slices.Equal(z, changed) {
		t.Errorf("Diff the other way round: %s: %.200q, %.200q, %.200q; want %.200q, %.200q, %.200q", what, x, y, z, gone, added, changed)
	}
}

// wantSame says whether two lists are the same, whichever is asked first.
func wantSame(t *testing.T, what string, a, b []api.Entry, want bool) {
	t.Helper()
	if tree.Same(a, b) != want || tree.Same(b, a) != want {
		t.Errorf("Same: %s: %v, %v; want %v", what, tree.Same(a, b), tree.Same(b, a), want)
	}
}

// toldDiff tells what is added, gone and changed by looking for each path in the other tree.
func toldDiff(a, b []api.Entry) ([]string, []string, []string) {
	var added, gone, changed []string
	for _, e := range b {
		switch at := slices.Index(paths(a), e.Path); {
		case at < 0:
			added = append(added, e.Path)
		case !toldLike(a[at], e):
			changed = append(changed, e.Path)
		}
	}
	for _, e := range a {
		if !slices.Contains(paths(b), e.Path) {
			gone = append(gone, e.Path)
		}
	}
	return added, gone, changed
}

// unlike tells entries that have just one field other than this one's.
func unlike(e api.Entry) map[string]api.Entry {
	p, k, m, d, s := e, e, e, e, e
	p.Path += "b"
	k.Kind++
	m.Mode++
	d.Data = append(slices.Clone(e.Data), 0)
	s.To += "b"
	return map[string]api.Entry{"Path": p, "Kind": k, "Mode": m, "Data": d, "To": s}
}

func TestExampleOfDiff(t *testing.T) {
	l := made()
	wantDiff(t, "the example", l, []api.Entry{l[0], file("a/b", "y"), dir("d")}, []string{"d"}, []string{"c"}, []string{"a/b"})
}

func TestSame(t *testing.T) {
	for _, l := range [][]api.Entry{made(), wide(200), wide(201), deep(20), bad(), {{}}} {
		wantSame(t, "itself", l, l, true)
		wantSame(t, "itself in other memory", l, copied(l), true)
		wantSame(t, "without the last", l, l[:len(l)-1], false)
		wantSame(t, "without the first", l, l[1:], false)
		wantSame(t, "none", l, nil, false)
		wantSame(t, "the last twice", l, append(slices.Clone(l), l[len(l)-1]), false)
	}
	wantSame(t, "none and none", nil, nil, true)
	wantSame(t, "none that is not nil", nil, []api.Entry{}, true)
	l := made()
	wantSame(t, "another order", l, []api.Entry{l[0], l[2], l[1]}, false)
	wantSame(t, "another order of no tree", []api.Entry{{}, {Kind: 9}}, []api.Entry{{Kind: 9}, {}}, false)
}

func TestSameWhereJustOneFieldDiffers(t *testing.T) {
	for _, e := range append(good(), bad()...) {
		for field, other := range unlike(e) {
			wantSame(t, field, []api.Entry{e}, []api.Entry{other}, false)
			wantSame(t, field+" of the last", append(made(), e), append(made(), other), false)
			wantSame(t, field+" of the first", append([]api.Entry{e}, made()...), append([]api.Entry{other}, made()...), false)
		}
	}
	wantSame(t, "Data of as many bytes", []api.Entry{file("a", "xyz")}, []api.Entry{file("a", "xyy")}, false)
	wantSame(t, "To of as many bytes", []api.Entry{link("a", "xyz")}, []api.Entry{link("a", "xyy")}, false)
}

func TestSameOfNoDataNilOrNot(t *testing.T) {
	for _, e := range []api.Entry{dir("a"), file("a", ""), link("a", "b"), {}} {
		none, empty, room := e, e, e
		none.Data, empty.Data, room.Data = nil, []byte{}, make([]byte, 0, 5)
		wantSame(t, "nil and empty", []api.Entry{none}, []api.Entry{empty}, true)
		wantSame(t, "nil and with room", []api.Entry{none}, []api.Entry{room}, true)
		wantSame(t, "empty and with room", []api.Entry{empty}, []api.Entry{room}, true)
		if toldTree([]api.Entry{e}) {
			wantDiff(t, "nil and empty", []api.Entry{none}, []api.Entry{empty}, nil, nil, nil)
		}
	}
}

func TestSameAsTheWordsSay(t *testing.T) {
	all := lists(2, []api.Entry{dir("a"), file("a", ""), file("a", "x"), file("b", "x"), link("a", "b"), {}})
	for _, a := range all {
		for _, b := range all {
			wantSame(t, "lists", a, b, toldSame(a, b))
		}
	}
}

func TestDiff(t *testing.T) {
	l := made()
	wantDiff(t, "none and none", nil, []api.Entry{}, nil, nil, nil)
	wantDiff(t, "itself", l, copied(l), nil, nil, nil)
	wantDiff(t, "from nothing", nil, l, paths(l), nil, nil)
	wantDiff(t, "200 from nothing", nil, wide(200), paths(wide(200)), nil, nil)
	wantDiff(t, "200 and 199", wide(200), wide(199), nil, []string{"f1199"}, nil)
	wantDiff(t, "200 and the last 199", wide(200), wide(200)[1:], nil, []string{"f1000"}, nil)
	wantDiff(t, "trees that share nothing", wide(200), deep(20), paths(deep(20)), paths(wide(200)), nil)
	wantDiff(t, "in turns", []api.Entry{file("a", ""), file("c", ""), file("e", "")}, []api.Entry{file("b", ""), file("d", ""), file("f", "")}, []string{"b", "d", "f"}, []string{"a", "c", "e"}, nil)
	wantDiff(t, "as paths rise", []api.Entry{dir("a")}, []api.Entry{dir("a"), dir("a/b"), dir("a/b/c"), dir("a!"), dir("ab")}, []string{"a/b", "a/b/c", "a!", "ab"}, nil, nil)
	wantDiff(t, "a directory as a file", l, []api.Entry{file("a", ""), l[2]}, nil, []string{"a/b"}, []string{"a"})
	wantDiff(t, "all changed", []api.Entry{dir("a"), file("b", "x"), link("c", "a")}, []api.Entry{file("a", "x"), link("b", "a"), dir("c")}, nil, nil, []string{"a", "b", "c"})
}

func TestDiffWhereJustOneFieldDiffers(t *testing.T) {
	for field, pair := range map[string][2]api.Entry{
		"Mode":                      {dir("m"), {Path: "m", Kind: 1, Mode: 492}},
		"Mode of a file":            {file("m", "x"), {Path: "m", Kind: 2, Mode: 0, Data: []byte("x")}},
		"Kind":                      {{Path: "m", Kind: 1}, {Path: "m", Kind: 2}},
		"Data":                      {file("m", "x"), file("m", "y")},
		"Data, longer":              {file("m", "x"), file("m", "xx")},
		"Data, none":                {file("m", "x"), file("m", "")},
		"To":                        {link("m", "x"), link("m", "y")},
		"To, longer":                {link("m", "x"), link("m", "xx")},
		"Kind, with what goes with": {file("m", "x"), link("m", "x")},
	} {
		a, b := append(made(), pair[0]), append(made(), pair[1])
		wantDiff(t, field, a, b, nil, nil, []string{"m"})
		wantDiff(t, field, append(a, dir("z")), b, nil, []string{"z"}, []string{"m"})
	}
}

func TestDiffOfWhatMayNotBe(t *testing.T) {
	l := made()
	none := [][]api.Entry{wide(201), l[1:], {l[2], l[0]}, {l[0], l[0]}, append(made(), api.Entry{}), {file("a", ""), file("a/b", "")}}
	for _, e := range bad() {
		none = append(none, []api.Entry{e})
	}
	for _, a := range none {
		wantDiff(t, "no tree and a tree", a, l, nil, nil, nil)
		wantDiff(t, "no tree and none", a, nil, nil, nil, nil)
		wantDiff(t, "no tree and itself", a, a, nil, nil, nil)
		for _, b := range none {
			wantDiff(t, "no trees", a, b, nil, nil, nil)
		}
	}
}

func TestDiffAsTheWordsSay(t *testing.T) {
	all := trees()
	for i, a := range all {
		for _, b := range all[i:] {
			added, gone, changed := toldDiff(a, b)
			wantDiff(t, "trees", a, b, added, gone, changed)
		}
	}
	if len(all) < 100 {
		t.Errorf("just %d trees", len(all))
	}
}

// What follows: from a tree one comes to another one by dropping what is gone, and putting what is changed or added, in order. (P8.4)
func TestFromATreeToAnother(t *testing.T) {
	for _, all := range [][][]api.Entry{trees(), {nil, wide(200), wide(201)[1:], deep(20), made()}} {
		for _, a := range all {
			for _, b := range all {
				if got := come(t, a, b); !toldSame(got, b) {
					t.Fatalf("from %q to %q: %q", paths(a), paths(b), paths(got))
				}
			}
		}
	}
}

// come tells what comes of a tree by what Diff tells of it and another one.
func come(t *testing.T, a, b []api.Entry) []api.Entry {
	t.Helper()
	added, gone, changed := tree.Diff(a, b)
	var err api.Errno
	for _, s := range gone {
		if _, is := tree.Find(a, s); !is {
			continue // it went with what it lay under
		}
		if a, err = tree.Drop(a, s); err != api.OK {
			t.Fatalf("Drop of %s: %v", s, err)
		}
	}
	rising := append(changed, added...)
	slices.SortFunc(rising, path.Compare)
	for _, s := range rising {
		e, _ := tree.Find(b, s)
		if a, err = tree.Put(a, e); err != api.OK {
			t.Fatalf("Put of %s: %v", s, err)
		}
	}
	return a
}

func TestDiffsListsAreNewMemory(t *testing.T) {
	a := []api.Entry{dir("a"), file("b", "x"), file("d", "x")}
	b := []api.Entry{file("b", "y"), file("c", "x"), file("e", "x")}
	givenA, givenB := roomy(a), roomy(b)
	x, y, z := tree.Diff(givenA, givenB)
	for _, l := range [][]string{x, y, z} {
		l = l[:cap(l)]
		for i := range l {
			l[i] = "spoilt"
		}
	}
	if !toldSame(givenA, a) || !toldSame(givenB, b) {
		t.Errorf("%q, %q", paths(givenA), paths(givenB))
	}
	wantRoomUntouched(t, "Diff", givenA)
	wantRoomUntouched(t, "Diff", givenB)
	wantDiff(t, "anew", givenA, givenB, []string{"c", "e"}, []string{"a", "d"}, []string{"b"})

	x, y, z = tree.Diff(a, b)
	_, _, _ = append(x, "more"), append(y, "more"), append(z, "more")
	if !slices.Equal(x, []string{"c", "e"}) || !slices.Equal(y, []string{"a", "d"}) || !slices.Equal(z, []string{"b"}) {
		t.Errorf("%q, %q, %q", x, y, z)
	}
}

func TestSize(t *testing.T) {
	big := file("big", string(make([]byte, 1048576)))
	for _, x := range []struct {
		l    []api.Entry
		want int
	}{
		{nil, 0}, {[]api.Entry{}, 0}, {made(), 1}, {made()[:1], 0}, {[]api.Entry{file("a", "")}, 0}, {wide(200), 200}, {wide(1000), 1000}, {deep(20), 0},
		{[]api.Entry{big}, 1048576}, {[]api.Entry{big, file("c", "xyz"), link("d", "big")}, 1048579},
		{[]api.Entry{{Data: []byte("of no tree")}, {Kind: 1, Data: []byte("too")}}, 13}, {slices.Repeat([]api.Entry{big}, 300), 300 << 20},
	} {
		if got := tree.Size(x.l); got != x.want {
			t.Errorf("Size of %.100q: %d; want %d", paths(x.l), got, x.want)
		}
	}
	r := roomy(made())
	if tree.Size(r) != 1 {
		t.Errorf("Size looks at spare room")
	}
}
