package tree_test

import (
	"slices"
	"strconv"
	"strings"
	"testing"

	"satchel/api"
	"satchel/path"
)

func dir(s string) api.Entry { return api.Entry{Path: s, Kind: 1, Mode: 493} }
func file(s, data string) api.Entry {
	return api.Entry{Path: s, Kind: 2, Mode: 420, Data: []byte(data)}
}
func link(s, to string) api.Entry { return api.Entry{Path: s, Kind: 3, To: to} }

// made tells the tree of the chapter's examples.
func made() []api.Entry { return []api.Entry{dir("a"), file("a/b", "x"), link("c", "a/b")} }

// wide tells a tree of so many files.
func wide(n int) []api.Entry {
	var l []api.Entry
	for i := range n {
		l = append(l, file("f"+strconv.Itoa(1000+i), "x"))
	}
	return l
}

// deep tells a tree of so many directories, each in the one ahead of it.
func deep(n int) []api.Entry {
	var l []api.Entry
	for i := range n {
		l = append(l, dir(strings.Repeat("d/", i)+"d"))
	}
	return l
}

// mayStand tells whether an entry's kind, mode, bytes and target go together, as the document's words say it.
func mayStand(e api.Entry) bool {
	isFile, isLink := e.Kind == 2, e.Kind == 3
	return (e.Kind == 1 || isFile || isLink) &&
		e.Mode >= 0 && e.Mode <= 511 &&
		(isFile || len(e.Data) == 0) &&
		(isLink || len(e.To) == 0) &&
		(!isLink || len(e.To) >= 1 && len(e.To) <= 200)
}

// told tells what is wrong with a tree as the document's words say it.
func told(l []api.Entry) (api.Errno, int) {
	if len(l) > 200 {
		return api.ErrLong, 0
	}
	for at, e := range l {
		parent, has := path.Parent(e.Path)
		isParent := func(e api.Entry) bool { return e.Path == parent && e.Kind == 1 }
		switch {
		case path.Check(e.Path).Err != api.OK:
			return api.ErrBytes, at
		case !mayStand(e):
			return api.ErrArg, at
		case len(e.Data) > 1048576:
			return api.ErrLong, at
		case at > 0 && path.Compare(l[at-1].Path, e.Path) != -1:
			return api.ErrThere, at
		case has && !slices.ContainsFunc(l[:at], isParent):
			return api.ErrMissing, at
		}
	}
	return api.OK, 0
}

func toldTree(l []api.Entry) bool {
	err, _ := told(l)
	return err == api.OK
}

// toldLike tells whether each field of an entry is like the other's, as the document's words say it.
func toldLike(a, b api.Entry) bool {
	return a.Path == b.Path && a.Kind == b.Kind && a.Mode == b.Mode && string(a.Data) == string(b.Data) && a.To == b.To
}

func toldSame(a, b []api.Entry) bool { return slices.EqualFunc(a, b, toldLike) }

// good are entries that may be, several of them of the same path.
func good() []api.Entry {
	return []api.Entry{
		dir("a"), file("a", "x"), link("a", "b"), dir("a/b"), file("a/b", "y"), file("a/b/c", "xyz"), file("a/bc", ""), dir("a!"), link("a!/b", "a"), file("ab", "x"), {Path: "b", Kind: 1, Mode: 511}, link("c", "a/b"),
	}
}

// bad are entries that may not be.
func bad() []api.Entry {
	return []api.Entry{
		{}, dir(""), dir("a/"), file("a//b", "x"), link("..", "a"), dir(strings.Repeat("a", 61)), {Path: "a b", Kind: 4, Mode: 512, Data: []byte("x"), To: "y"},
		{Path: "a", Kind: 0}, {Path: "b", Kind: 4}, {Path: "a", Kind: 1, Mode: -1}, {Path: "a/b", Kind: 2, Mode: 512}, {Path: "a", Kind: 1, Data: []byte("x")}, {Path: "c", Kind: 3, To: "a", Data: []byte("x")}, {Path: "a", Kind: 1, To: "b"}, {Path: "d", Kind: 2, To: "b"}, link("a", ""), link("c", strings.Repeat("b", 201)),
		file("big", strings.Repeat("x", 1048577)),
	}
}

// trees tells all trees of good entries.
func trees() [][]api.Entry {
	all := [][]api.Entry{nil}
	for i := 0; i < len(all); i++ {
		for _, e := range good() {
			if l := append(slices.Clone(all[i]), e); toldTree(l) {
				all = append(all, l)
			}
		}
	}
	return all
}

// lists tells all lists of up to so many entries.
func lists(most int, entries []api.Entry) [][]api.Entry {
	all := [][]api.Entry{nil}
	for begin := 0; most > 0; most-- {
		end := len(all)
		for _, l := range all[begin:end] {
			for _, e := range entries {
				all = append(all, append(slices.Clone(l), e))
			}
		}
		begin = end
	}
	return all
}

// paths tells the paths of entries.
func paths(l []api.Entry) []string {
	var s []string
	for _, e := range l {
		s = append(s, e.Path)
	}
	return s
}

// roomy tells the same entries with spare room behind them and behind their bytes, which holds others.
func roomy(l []api.Entry) []api.Entry {
	var all []api.Entry
	for _, e := range l {
		b := append(slices.Clone(e.Data), "spare"...)
		e.Data = b[:len(e.Data)]
		all = append(all, e)
	}
	all = append(all, file("spare", "spare"), dir("spare too"))
	return all[:len(l)]
}

// wantRoomUntouched says that spare room holds what roomy put there.
func wantRoomUntouched(t *testing.T, what string, l []api.Entry) {
	t.Helper()
	if spare := l[len(l) : len(l)+2]; !toldSame(spare, []api.Entry{file("spare", "spare"), dir("spare too")}) {
		t.Errorf("%s: the list's spare room: %v", what, spare)
	}
	for _, e := range l {
		if n := len(e.Data); string(e.Data[n:n+5]) != "spare" {
			t.Errorf("%s: %s's spare room: %q", what, e.Path, e.Data[n:n+5])
		}
	}
}

// spoil changes all that a list holds, the spare room of all too.
func spoil(l []api.Entry) {
	l = l[:cap(l)]
	for i := range l {
		b := l[i].Data[:cap(l[i].Data)]
		for k := range b {
			b[k] ^= 0xff
		}
		l[i] = api.Entry{Path: "spoilt", Kind: 7, Mode: -7, Data: []byte("spoilt"), To: "spoilt"}
	}
}

// copied tells the same entries in memory of their own.
func copied(l []api.Entry) []api.Entry {
	var all []api.Entry
	for _, e := range l {
		e.Data = slices.Clone(e.Data)
		all = append(all, e)
	}
	return all
}
