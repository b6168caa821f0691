package tree_test

import (
	"slices"
	"strings"
	"testing"

	"satchel/api"
	"satchel/path"
	"satchel/tree"
)

// wantFind says which entry of a path there is; wantNone: that there is none.
func wantFind(t *testing.T, l []api.Entry, s string, want api.Entry) {
	t.Helper()
	if got, is := tree.Find(l, s); !is || !toldLike(got, want) {
		t.Errorf("Find(%.70q, %.70q): %.70v, %v; want %.70v", paths(l), s, got, is, want)
	}
}

func wantNone(t *testing.T, l []api.Entry, s string) {
	t.Helper()
	if got, is := tree.Find(l, s); is || got.Data != nil || !toldLike(got, api.Entry{}) {
		t.Errorf("Find(%.70q, %.70q): %.70v, %v; want none", paths(l), s, got, is)
	}
}

// wantMade says what came of a change, or why nothing did.
func wantMade(t *testing.T, what string, got []api.Entry, err api.Errno, want []api.Entry, wantErr api.Errno) {
	t.Helper()
	if err != wantErr || !toldSame(got, want) {
		t.Errorf("%.200q: %.200q, %v; want %.200q, %v", what, paths(got), err, paths(want), wantErr)
	}
}

func wantPut(t *testing.T, what string, l []api.Entry, e api.Entry, want ...api.Entry) {
	t.Helper()
	got, err := tree.Put(l, e)
	wantMade(t, "Put: "+what, got, err, want, api.OK)
}

func wantNoPut(t *testing.T, what string, l []api.Entry, e api.Entry, want api.Errno) {
	t.Helper()
	got, err := tree.Put(l, e)
	wantMade(t, "Put: "+what, got, err, nil, want)
}

func wantDrop(t *testing.T, l []api.Entry, s string, want ...api.Entry) {
	t.Helper()
	got, err := tree.Drop(l, s)
	wantMade(t, "Drop of "+s, got, err, want, api.OK)
}

func wantNoDrop(t *testing.T, l []api.Entry, s string, want api.Errno) {
	t.Helper()
	got, err := tree.Drop(l, s)
	wantMade(t, "Drop of "+s, got, err, nil, want)
}

// toldPut tells a list with an entry put into it, whatever may be: ahead of the first that is not ahead of it.
func toldPut(l []api.Entry, e api.Entry) []api.Entry {
	m := slices.DeleteFunc(slices.Clone(l), func(o api.Entry) bool { return o.Path == e.Path })
	at := 0
	for at < len(m) && path.Compare(m[at].Path, e.Path) < 0 {
		at++
	}
	return slices.Insert(m, at, e)
}

// toldDrop tells a list without the entry of a path, and without those whose paths go on behind it.
func toldDrop(l []api.Entry, s string) []api.Entry {
	return slices.DeleteFunc(slices.Clone(l), func(e api.Entry) bool { return e.Path == s || strings.HasPrefix(e.Path, s+"/") })
}

// odd are paths, and what is none, by which nothing is there, or not in each tree.
func odd() []string {
	return []string{"", "/", "a/", "/a", "a/b/", "a//b", ".", "..", "a/..", "a ", "A", "b", "z", "a/", "a/z", "a/b/c/d", "a!", "ab", "\xff", strings.Repeat("a", 61), strings.Repeat("a", 300)}
}

func TestExamplesOfChanges(t *testing.T) {
	l := made()
	wantDrop(t, l, "a", l[2])
	wantNoDrop(t, l, "b", api.ErrMissing)
	wantNoPut(t, "a as a file", l, api.Entry{Path: "a", Kind: api.File}, api.ErrMissing)
}

func TestFind(t *testing.T) {
	for _, l := range [][]api.Entry{made(), wide(1), wide(2), wide(3), wide(200), deep(20)} {
		for _, e := range l {
			wantFind(t, l, e.Path, e)
		}
		for _, s := range odd()[:11] {
			wantNone(t, l, s)
		}
	}
	for _, s := range []string{"b", "a/c", "a/b/c", "a!", "ab", "c/d", "A", "0", "d"} {
		wantNone(t, made(), s)
		wantNone(t, nil, s)
		wantNone(t, []api.Entry{}, s)
	}
}

func TestFindInWhatIsNoTree(t *testing.T) {
	for _, l := range lists(2, append(good(), bad()...)) {
		if toldTree(l) {
			continue
		}
		for _, e := range l {
			wantNone(t, l, e.Path)
		}
		wantNone(t, l, "a")
		wantNone(t, l, "")
	}
	wantNone(t, wide(201), "f1000")
	wantNone(t, wide(201), "f1200")
	wantNone(t, append(made(), file("d/e", "")), "a")
}

func TestFindAsTheWordsSay(t *testing.T) {
	for _, l := range trees() {
		for _, s := range append(paths(good()), odd()...) {
			if i := slices.Index(paths(l), s); i < 0 {
				wantNone(t, l, s)
			} else {
				wantFind(t, l, s, l[i])
			}
		}
	}
}

func TestPut(t *testing.T) {
	l := made()
	wantPut(t, "into nothing", nil, dir("a"), dir("a"))
	wantPut(t, "into nothing that is not nil", []api.Entry{}, link("a", "b"), link("a", "b"))
	wantPut(t, "in the midst", l, dir("b"), l[0], l[1], dir("b"), l[2])
	wantPut(t, "at the front", l, file("A", "y"), file("A", "y"), l[0], l[1], l[2])
	wantPut(t, "at the end", l, file("d", "y"), l[0], l[1], l[2], file("d", "y"))
	wantPut(t, "first in a directory", l, file("a/a", "y"), l[0], file("a/a", "y"), l[1], l[2])
	wantPut(t, "last in a directory", l, file("a/c", "y"), l[0], l[1], file("a/c", "y"), l[2])
	wantPut(t, "behind what lies in a directory", l, file("a!", "y"), l[0], l[1], file("a!", "y"), l[2])
}

func TestPutInAnothersPlace(t *testing.T) {
	l := made()
	wantPut(t, "the same", l, l[1], l...)
	wantPut(t, "other Data", l, file("a/b", "yz"), l[0], file("a/b", "yz"), l[2])
	wantPut(t, "no Data", l, file("a/b", ""), l[0], file("a/b", ""), l[2])
	wantPut(t, "a directory of another mode", l, api.Entry{Path: "a", Kind: api.Dir, Mode: 511}, api.Entry{Path: "a", Kind: api.Dir, Mode: 511}, l[1], l[2])
	wantPut(t, "a file as a directory", l, dir("a/b"), l[0], dir("a/b"), l[2])
	wantPut(t, "a link as a file", l, file("c", "z"), l[0], l[1], file("c", "z"))
	wantPut(t, "another link", l, link("c", "d"), l[0], l[1], link("c", "d"))
	wantPut(t, "a file as a link", l, link("a/b", "d"), l[0], link("a/b", "d"), l[2])
	wantPut(t, "a directory of nothing as a file", []api.Entry{dir("a"), dir("a!")}, file("a", ""), file("a", ""), dir("a!"))
}

func TestPutOfADirectoryAsAnother(t *testing.T) {
	l := made()
	wantNoPut(t, "as a file", l, file("a", "x"), api.ErrMissing)
	wantNoPut(t, "as a link", l, link("a", "x"), api.ErrMissing)
	wantNoPut(t, "as a file of long Data", l, file("a", strings.Repeat("x", 1048577)), api.ErrLong)
	wantNoPut(t, "as no kind", l, api.Entry{Path: "a", Kind: 4}, api.ErrArg)
	far := []api.Entry{dir("a"), dir("a/b"), dir("a/c"), file("a/c/d", "")}
	wantNoPut(t, "of which another one has entries under it", far, file("a/c", ""), api.ErrMissing)
	wantPut(t, "beside one that has entries under it", far, file("a/b", ""), far[0], file("a/b", ""), far[2], far[3])
}

func TestPutOfWhatMayNotBe(t *testing.T) {
	for _, l := range [][]api.Entry{nil, made(), wide(199)} {
		for _, e := range bad() {
			want, _ := told(toldPut(l, e))
			wantNoPut(t, e.Path, l, e, want)
		}
		for _, s := range odd()[:10] {
			wantNoPut(t, s, l, dir(s), api.ErrBytes)
		}
		wantNoPut(t, "no Parent", l, file("z/z", ""), api.ErrMissing)
	}
	wantNoPut(t, "in a file", made(), file("a/b/c", ""), api.ErrMissing)
	wantNoPut(t, "in a link", made(), file("c/d", ""), api.ErrMissing)
}

func TestPutOfTheTwoHundredFirst(t *testing.T) {
	l := wide(200)
	for _, s := range []string{"a", "f1100a", "z"} {
		at, _ := slices.BinarySearch(paths(l[:199]), s)
		wantPut(t, "the 200th", l[:199], dir(s), slices.Insert(slices.Clone(l[:199]), at, dir(s))...)
		wantNoPut(t, "the 201st", l, dir(s), api.ErrLong)
	}
	for _, e := range append(bad(), file("z/z", "")) {
		wantNoPut(t, "the 201st that may not be", l, e, api.ErrLong)
	}
	m := slices.Clone(l)
	m[77] = link(m[77].Path, "a")
	wantPut(t, "in the place of one of 200", l, m[77], m...)
	wantNoPut(t, "what may not be in the place of one of 200", l, link(m[77].Path, ""), api.ErrArg)
}

func TestPutIntoWhatIsNoTree(t *testing.T) {
	for _, l := range append(lists(2, append(good(), bad()...)), wide(201), wide(202)) {
		if err, _ := told(l); err != api.OK {
			wantNoPut(t, "into no tree", l, dir("a"), err)
			wantNoPut(t, "no entry into no tree", l, api.Entry{}, err)
			wantNoDrop(t, l, "a", err)
			wantNoDrop(t, l, "", err)
		}
	}
	wantNoPut(t, "the Parent that is missing", []api.Entry{file("a/b", "")}, dir("a"), api.ErrMissing)
	wantNoDrop(t, []api.Entry{dir("a"), file("b/c", "")}, "b/c", api.ErrMissing)
	wantNoDrop(t, wide(201), "f1000", api.ErrLong)
}

func TestDrop(t *testing.T) {
	l := []api.Entry{dir("a"), dir("a/b"), file("a/b/c", "x"), link("a/b!", "y"), file("a!", ""), dir("ab"), file("ab/c", "z"), dir("b")}
	wantDrop(t, l, "a", l[4:]...)
	wantDrop(t, l, "a/b", l[0], l[3], l[4], l[5], l[6], l[7])
	wantDrop(t, l, "a/b/c", l[0], l[1], l[3], l[4], l[5], l[6], l[7])
	wantDrop(t, l, "a!", l[0], l[1], l[2], l[3], l[5], l[6], l[7])
	wantDrop(t, l, "ab", l[0], l[1], l[2], l[3], l[4], l[7])
	wantDrop(t, l, "b", l[:7]...)
	wantDrop(t, l[:1], "a")
	wantDrop(t, l[:4], "a")
	wantDrop(t, deep(20), "d")
	wantDrop(t, deep(20), "d/d/d", deep(2)...)
	wantDrop(t, wide(200), "f1199", wide(199)...)
	for _, s := range []string{"a/c", "a/b/d", "a/b/c/d", "aa", "c", "A", "ab/", "", "/", "a/", "a//b", "a b", strings.Repeat("a", 201)} {
		wantNoDrop(t, l, s, api.ErrMissing)
		wantNoDrop(t, nil, s, api.ErrMissing)
	}
}

func TestChangesAsTheWordsSay(t *testing.T) {
	entries := append(good(), bad()...)
	for _, l := range trees() {
		for _, e := range entries {
			m := toldPut(l, e)
			if err, _ := told(m); err != api.OK {
				wantNoPut(t, e.Path, l, e, err)
			} else {
				wantPut(t, e.Path, l, e, m...)
			}
		}
		for _, s := range append(paths(good()), odd()...) {
			if !slices.Contains(paths(l), s) {
				wantNoDrop(t, l, s, api.ErrMissing)
			} else {
				wantDrop(t, l, s, toldDrop(l, s)...)
			}
		}
	}
}

// answers tells what each call that answers entries tells of a tree that has a directory a, and files a/b and c.
func answers(t *testing.T, l []api.Entry, e api.Entry) map[string][]api.Entry {
	t.Helper()
	found, is := tree.Find(l, "a/b")
	in, errIn := tree.Put(l, e)
	without, errWithout := tree.Drop(l, "c")
	beside, errBeside := tree.Drop(l, "a")
	if !is || errIn != api.OK || errWithout != api.OK || errBeside != api.OK {
		t.Fatalf("%v, %v, %v, %v", is, errIn, errWithout, errBeside)
	}
	return map[string][]api.Entry{"Find": {found}, "Put": in, "Drop of c": without, "Drop of a": beside}
}

// Whatever is done to an answer, its spare room too, changes neither what was handed in nor another answer, and the other way round.
func TestAnswersAreNewMemory(t *testing.T) {
	l := []api.Entry{dir("a"), file("a/b", "some bytes"), file("c", "other")}
	for _, e := range []api.Entry{file("a/c", "bytes"), file("a/b", "bytes"), dir("0"), link("z", "a")} {
		given, with := roomy(l), roomy([]api.Entry{e})
		got, again := answers(t, given, with[0]), answers(t, given, with[0])
		for what, entries := range got {
			want := copied(entries)
			spoil(entries)
			if !toldSame(given, l) || !toldLike(with[0], e) || !toldSame(again[what], want) {
				t.Errorf("%s of %s: the answer shares memory", what, e.Path)
			}
		}
		wantRoomUntouched(t, "changes", given)
		wantRoomUntouched(t, "changes", with)
		wants := make(map[string][]api.Entry)
		for what, entries := range again {
			wants[what] = copied(entries)
		}
		spoil(given)
		spoil(with)
		for what, entries := range again {
			if !toldSame(entries, wants[what]) {
				t.Errorf("%s of %s: the answer keeps what was handed in", what, e.Path)
			}
		}
	}
}

// Files that share their bytes where they are handed in do not share them in an answer.
func TestNoTwoListsOfAnAnswerShareMemory(t *testing.T) {
	b := []byte("shared")
	l := []api.Entry{{Path: "a", Kind: 2, Data: b}, {Path: "b", Kind: 2, Data: b[:3]}, {Path: "c", Kind: 2, Data: b[3:]}, dir("d")}
	in, _ := tree.Put(l, api.Entry{Path: "aa", Kind: 2, Data: b})
	out, _ := tree.Drop(l, "d")
	for what, entries := range map[string][]api.Entry{"Put": in, "Drop": out} {
		want := copied(entries)
		for i, e := range entries {
			for k := range e.Data[:cap(e.Data)] {
				e.Data[:cap(e.Data)][k] = '!'
			}
			if !toldSame(entries[i+1:], want[i+1:]) || string(b) != "shared" {
				t.Errorf("%s: %s shares its bytes", what, e.Path)
			}
		}
	}
}
