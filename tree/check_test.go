package tree_test

import (
	"math"
	"slices"
	"strings"
	"testing"

	"satchel/api"
	"satchel/tree"
)

// wantCheck says what is wrong with entries, and with which.
func wantCheck(t *testing.T, what string, l []api.Entry, want api.Errno, wantAt int) {
	t.Helper()
	if err, at := tree.Check(l); err != want || at != wantAt {
		t.Errorf("Check of %.100q: %v at %d; want %v at %d", what, err, at, want, wantAt)
	}
}

// wantAlone says what is wrong with an entry that stands alone, and with one behind others.
func wantAlone(t *testing.T, what string, e api.Entry, want api.Errno) {
	t.Helper()
	wantCheck(t, what, []api.Entry{e}, want, 0)
	at := 0
	if want != api.OK {
		at = 2
	}
	wantCheck(t, what+" behind others", []api.Entry{dir("!"), file("!/a", "x"), e}, want, at)
}

func TestExamplesOfCheck(t *testing.T) {
	odd := made()
	odd[0].Data = []byte("x")
	wantCheck(t, "the tree", made(), api.OK, 0)
	wantCheck(t, "the tree without a", made()[1:], api.ErrMissing, 0)
	wantCheck(t, "c and a", []api.Entry{made()[2], made()[0]}, api.ErrThere, 1)
	wantCheck(t, "a with Data", odd, api.ErrArg, 0)
}

func TestCheckOfNoEntries(t *testing.T) {
	wantCheck(t, "none", nil, api.OK, 0)
	wantCheck(t, "none, but not nil", []api.Entry{}, api.OK, 0)
}

func TestCheckOfHowManyEntries(t *testing.T) {
	for _, n := range []int{1, 2, 199, 200} {
		wantCheck(t, "many", wide(n), api.OK, 0)
	}
	wantCheck(t, "201", wide(201), api.ErrLong, 0)
	wantCheck(t, "500", wide(500), api.ErrLong, 0)
	wantCheck(t, "201 of no path", make([]api.Entry, 201), api.ErrLong, 0)
	wantCheck(t, "200 of no path", make([]api.Entry, 200), api.ErrBytes, 0)
	wantCheck(t, "201, of which the last is there twice", append(wide(200), wide(200)[199]), api.ErrLong, 0)
	last := append(wide(199), file("f", "x"))
	wantCheck(t, "200, of which the last is not behind", last, api.ErrThere, 199)
}

func TestCheckOfPaths(t *testing.T) {
	for _, s := range []string{"", "/", "a/", "a//b", ".", "..", "b/../a", "a b", "\x00", "é", strings.Repeat("a", 61), strings.Repeat("a/", 20) + "a", strings.Repeat("a", 201)} {
		wantAlone(t, s, dir(s), api.ErrBytes)
		wantAlone(t, s, file(s, "x"), api.ErrBytes)
		wantAlone(t, s, link(s, "a"), api.ErrBytes)
	}
	for _, s := range []string{"a", "...", "~", "a!", strings.Repeat("a", 60)} {
		wantAlone(t, s, dir(s), api.OK)
	}
	wantCheck(t, "20 directories, each in one", deep(20), api.OK, 0)
	wantCheck(t, "21 directories, each in one", deep(21), api.ErrBytes, 20)
}

func TestCheckOfKindsAndModes(t *testing.T) {
	for _, kind := range []int{math.MinInt, -1, 0, 4, 5, 257, 1 << 32, 1<<32 + 1, math.MaxInt} {
		wantAlone(t, "a kind", api.Entry{Path: "a", Kind: kind}, api.ErrArg)
		wantAlone(t, "a kind with all", api.Entry{Path: "a", Kind: kind, Data: []byte("x"), To: "b"}, api.ErrArg)
	}
	for mode, want := range map[int]api.Errno{math.MinInt: api.ErrArg, -512: api.ErrArg, -1: api.ErrArg, 0: api.OK, 1: api.OK, 420: api.OK, 510: api.OK, 511: api.OK, 512: api.ErrArg, 1023: api.ErrArg, 1 << 32: api.ErrArg, math.MaxInt: api.ErrArg} {
		wantAlone(t, "a directory's mode", api.Entry{Path: "a", Kind: api.Dir, Mode: mode}, want)
		wantAlone(t, "a file's mode", api.Entry{Path: "a", Kind: api.File, Mode: mode}, want)
		wantAlone(t, "a link's mode", api.Entry{Path: "a", Kind: api.Link, Mode: mode, To: "b"}, want)
	}
}

func TestCheckOfData(t *testing.T) {
	most := strings.Repeat("x", 1048576)
	for _, b := range [][]byte{nil, {}, make([]byte, 0, 9)} {
		wantAlone(t, "a directory of no Data", api.Entry{Path: "a", Kind: api.Dir, Data: b}, api.OK)
		wantAlone(t, "a file of no Data", api.Entry{Path: "a", Kind: api.File, Data: b}, api.OK)
		wantAlone(t, "a link of no Data", api.Entry{Path: "a", Kind: api.Link, Data: b, To: "b"}, api.OK)
	}
	for _, data := range []string{"x", most, most + "x"} {
		wantAlone(t, "a directory with Data", api.Entry{Path: "a", Kind: api.Dir, Data: []byte(data)}, api.ErrArg)
		wantAlone(t, "a link with Data", api.Entry{Path: "a", Kind: api.Link, Data: []byte(data), To: "b"}, api.ErrArg)
	}
	wantAlone(t, "a file of a byte", file("a", "\x00"), api.OK)
	wantAlone(t, "a file of 2^20 - 1 bytes", file("a", most[1:]), api.OK)
	wantAlone(t, "a file of 2^20 bytes", file("a", most), api.OK)
	wantAlone(t, "a file of 2^20 + 1 bytes", file("a", most+"x"), api.ErrLong)
	wantAlone(t, "a file of 2^21 bytes", file("a", most+most), api.ErrLong)
}

func TestCheckOfTo(t *testing.T) {
	for size, want := range map[int]api.Errno{0: api.ErrArg, 1: api.OK, 2: api.OK, 199: api.OK, 200: api.OK, 201: api.ErrArg, 400: api.ErrArg, 1 << 16: api.ErrArg} {
		to := strings.Repeat("b", size)
		wantAlone(t, "a link", link("a", to), want)
		if size > 0 {
			wantAlone(t, "a directory with To", api.Entry{Path: "a", Kind: api.Dir, To: to}, api.ErrArg)
			wantAlone(t, "a file with To", api.Entry{Path: "a", Kind: api.File, Data: []byte("x"), To: to}, api.ErrArg)
			wantAlone(t, "an empty file with To", api.Entry{Path: "a", Kind: api.File, To: to}, api.ErrArg)
		}
	}
	for _, to := range []string{"/", "..", "../../b", "//", " ", "\x00", "\xff", "a", strings.Repeat("é", 100)} {
		wantAlone(t, "a link to what is no path here", link("a", to), api.OK)
	}
}

func TestCheckOfTheOrder(t *testing.T) {
	wantCheck(t, "the same path twice", []api.Entry{dir("a"), dir("a")}, api.ErrThere, 1)
	wantCheck(t, "the same path as another kind", []api.Entry{dir("a"), dir("b"), file("b", "x")}, api.ErrThere, 2)
	wantCheck(t, "b and a", []api.Entry{file("b", ""), file("a", "")}, api.ErrThere, 1)
	wantCheck(t, "a, b, a/b", []api.Entry{dir("a"), dir("b"), file("a/b", "")}, api.ErrThere, 2)
	wantCheck(t, "a, a/b, a!", []api.Entry{dir("a"), file("a/b", ""), file("a!", "")}, api.OK, 0)
	wantCheck(t, "a, a!, a/b, as bytes are", []api.Entry{dir("a"), file("a!", ""), file("a/b", "")}, api.ErrThere, 2)
	wantCheck(t, "a path twice, with others between", []api.Entry{file("a", ""), file("b", ""), file("a", "")}, api.ErrThere, 2)
	wantCheck(t, "A, a", []api.Entry{file("A", ""), file("a", "")}, api.OK, 0)
}

func TestCheckOfParents(t *testing.T) {
	wantCheck(t, "a path whose Parent is not there", []api.Entry{file("a/b", "")}, api.ErrMissing, 0)
	wantCheck(t, "a path whose Parent stands behind", []api.Entry{file("a/b", ""), dir("a")}, api.ErrMissing, 0)
	wantCheck(t, "a path whose Parent is a file", []api.Entry{file("a", ""), file("a/b", "")}, api.ErrMissing, 1)
	wantCheck(t, "a path whose Parent is a link", []api.Entry{link("a", "b"), file("a/b", "")}, api.ErrMissing, 1)
	wantCheck(t, "a path whose Parent is another case", []api.Entry{dir("A"), file("a/b", "")}, api.ErrMissing, 1)
	wantCheck(t, "a path whose Parent's Parent alone is there", []api.Entry{dir("a"), file("a/b/c", "")}, api.ErrMissing, 1)
	wantCheck(t, "a path whose Parent's Parent alone is not there", []api.Entry{dir("a/b"), file("a/b/c", "")}, api.ErrMissing, 0)
	wantCheck(t, "a path in what its Parent begins with", []api.Entry{dir("a"), dir("ab"), file("abc/d", "")}, api.ErrMissing, 2)
	wantCheck(t, "Parents far ahead", []api.Entry{dir("a"), dir("a/b"), file("a/b/c", ""), dir("a/d"), file("a/d/e", ""), file("a/z", ""), dir("a!")}, api.OK, 0)
	far := []api.Entry{dir("d")}
	for _, e := range wide(199) {
		far = append(far, file("d/"+e.Path, "x"))
	}
	wantCheck(t, "199 files in a directory", far, api.OK, 0)
	far[0].Kind = api.File
	wantCheck(t, "199 files in a file", far, api.ErrMissing, 1)
}

// Of several things that are wrong with an entry the first is told, and of several entries the first.
func TestCheckOfSeveralFaults(t *testing.T) {
	long := []byte(strings.Repeat("x", 1048577))
	wantCheck(t, "no path and no kind", []api.Entry{{Path: "a/", Kind: 9, Mode: 999, Data: long, To: "a"}}, api.ErrBytes, 0)
	wantCheck(t, "no kind, long Data, no Parent", []api.Entry{{Path: "a/b", Kind: 4, Data: long}}, api.ErrArg, 0)
	wantCheck(t, "no mode, long Data", []api.Entry{{Path: "a/b", Kind: 2, Mode: 512, Data: long}}, api.ErrArg, 0)
	wantCheck(t, "To of a file of long Data", []api.Entry{{Path: "a/b", Kind: 2, Data: long, To: "a"}}, api.ErrArg, 0)
	wantCheck(t, "long Data, not behind, no Parent", []api.Entry{dir("b"), {Path: "a/b", Kind: 2, Data: long}}, api.ErrLong, 1)
	wantCheck(t, "not behind, no Parent", []api.Entry{dir("b"), file("a/b", "")}, api.ErrThere, 1)
	wantCheck(t, "no Parent ahead of no path", []api.Entry{dir("a"), file("b/a", ""), {}}, api.ErrMissing, 1)
	wantCheck(t, "twice, ahead of no kind", []api.Entry{dir("a"), dir("a"), {Path: "b"}}, api.ErrThere, 1)
}

func TestCheckAsTheWordsSay(t *testing.T) {
	n := 0
	for _, l := range lists(3, append(good(), bad()...)) {
		want, wantAt := told(l)
		if err, at := tree.Check(l); err != want || at != wantAt {
			t.Fatalf("Check of %q: %v at %d; want %v at %d", paths(l), err, at, want, wantAt)
		}
		if want == api.OK {
			n++
		}
	}
	for _, l := range trees() {
		wantCheck(t, strings.Join(paths(l), " "), l, api.OK, 0)
	}
	if n < 50 {
		t.Errorf("of the lists just %d are trees", n)
	}
}

// What follows: of a tree each first part is one. (P8.4)
func TestFirstPartsAreTrees(t *testing.T) {
	for _, l := range append(trees(), wide(200), deep(20), made()) {
		for n := range l {
			wantCheck(t, "a first part", l[:n], api.OK, 0)
		}
	}
}

func TestCheckChangesNothing(t *testing.T) {
	for _, l := range append(lists(2, append(good(), bad()...)), made(), wide(200)) {
		r := roomy(l)
		tree.Check(r)
		if !toldSame(r, l) {
			t.Fatalf("Check changed %q", paths(l))
		}
		wantRoomUntouched(t, "Check", r)
	}
}

// Spare room is not looked at: what it holds changes nothing.
func TestCheckLooksAtNoSpareRoom(t *testing.T) {
	l := append(made(), dir("a"), dir(""))
	wantCheck(t, "a tree with no tree behind it", l[:3], api.OK, 0)
	wantCheck(t, "a tree's beginning", slices.Clone(l)[:1], api.OK, 0)
	b := make([]byte, 1048576+100)
	wantCheck(t, "Data with more behind it", []api.Entry{{Path: "a", Kind: 2, Data: b[:1048576]}}, api.OK, 0)
	wantCheck(t, "no Data with more behind it", []api.Entry{{Path: "a", Kind: 1, Data: b[:0]}}, api.OK, 0)
}
