package path_test

import (
	"slices"
	"strings"
	"testing"

	"satchel/api"
	"satchel/path"
)

// wantParent says what a path lies in; none: nothing.
func wantParent(t *testing.T, s, want string) {
	t.Helper()
	if got, is := path.Parent(s); got != want || is != (want != "") {
		t.Errorf("Parent(%.70q): %q, %v; want %q", s, got, is, want)
	}
}

// wantBase says what a path's last part is.
func wantBase(t *testing.T, s, want string) {
	t.Helper()
	if got := path.Base(s); got != want {
		t.Errorf("Base(%.70q): %q; want %q", s, got, want)
	}
}

// wantJoin says what comes of a directory and a part.
func wantJoin(t *testing.T, dir, part, want string, err api.Errno) {
	t.Helper()
	if got, e := path.Join(dir, part); got != want || e != err {
		t.Errorf("Join(%.70q, %.70q): %q, %v; want %q, %v", dir, part, got, e, want, err)
	}
}

func TestExamplesOfParts(t *testing.T) {
	wantParent(t, "a/b/c", "a/b")
	wantParent(t, "a", "")
	wantBase(t, "a/b", "b")
	wantJoin(t, "a", "b", "a/b", api.OK)
	wantJoin(t, "", "b", "b", api.OK)
	wantJoin(t, "a", "b/c", "", api.ErrArg)
}

func TestPartsOfPaths(t *testing.T) {
	for s, want := range map[string][]string{
		"a": {"a"}, "a/b": {"a", "b"}, "a/b.c": {"a", "b.c"}, "ab/.../~!": {"ab", "...", "~!"}, "...": {"..."},
		ofParts(20): slices.Repeat([]string{"a"}, 20), strings.Repeat("x", 60): {strings.Repeat("x", 60)},
	} {
		if got := path.Parts(s); !slices.Equal(got, want) {
			t.Errorf("Parts(%.70q): %q; want %q", s, got, want)
		}
	}
	for _, s := range good() {
		if got := path.Parts(s); !slices.Equal(got, strings.Split(s, "/")) {
			t.Errorf("Parts(%.70q): %q", s, got)
		}
	}
}

func TestPartsOfWhatIsNoPath(t *testing.T) {
	for _, s := range bad() {
		if got := path.Parts(s); len(got) != 0 {
			t.Errorf("Parts(%.70q): %q; want none", s, got)
		}
		wantParent(t, s, "")
		wantBase(t, s, "")
	}
}

// Who changes what Parts told changes nothing that is told later.
func TestPartsAreNewMemory(t *testing.T) {
	s := "a/b/c"
	first, second := path.Parts(s), path.Parts(s)
	for i := range first {
		first[i] = "other"
	}
	_ = append(first, "more")
	want := []string{"a", "b", "c"}
	if !slices.Equal(second, want) || !slices.Equal(path.Parts(s), want) || s != "a/b/c" {
		t.Errorf("%q, %q", second, path.Parts(s))
	}
}

func TestParentAndBase(t *testing.T) {
	for s, want := range map[string][2]string{
		"b": {"", "b"}, "a/b": {"a", "b"}, "ab/cd/ef": {"ab/cd", "ef"}, ".../....": {"...", "...."}, "a!/~": {"a!", "~"}, "...": {"", "..."},
		ofParts(20): {ofParts(19), "a"}, strings.Repeat("x", 60): {"", strings.Repeat("x", 60)}, "a/" + strings.Repeat("x", 60): {"a", strings.Repeat("x", 60)},
	} {
		wantParent(t, s, want[0])
		wantBase(t, s, want[1])
	}
	for _, s := range good() {
		l := strings.Split(s, "/")
		wantParent(t, s, strings.Join(l[:len(l)-1], "/"))
		wantBase(t, s, l[len(l)-1])
	}
}

// What follows: Join of Parent and Base is the path. (P7.4)
func TestJoinOfParentAndBase(t *testing.T) {
	for _, s := range append(good(), short(5, "ab./")...) {
		if !toldPath(s) {
			continue
		}
		dir, is := path.Parent(s)
		if is != strings.Contains(s, "/") {
			t.Errorf("Parent(%.70q): %q, %v", s, dir, is)
		}
		wantJoin(t, dir, path.Base(s), s, api.OK)
	}
}

func TestJoinOfNoneAndAPart(t *testing.T) {
	for _, part := range []string{"a", "...", "~", "!", "a.b", strings.Repeat("x", 59), strings.Repeat("x", 60)} {
		wantJoin(t, "", part, part, api.OK)
		wantJoin(t, "a/b", part, "a/b/"+part, api.OK)
	}
}

func TestJoinOfWhatIsNoPart(t *testing.T) {
	for _, part := range []string{"", ".", "..", "/", "b/", "/b", "b/c", "b//c", "../b", " ", "b c", "\x7f", "\x80", "é", strings.Repeat("x", 61), strings.Repeat("x", 61) + " ", ofSize(201)} {
		for _, dir := range []string{"", "a", "a/b", "/", "a b", ofParts(20), ofSize(200)} {
			wantJoin(t, dir, part, "", api.ErrArg)
		}
	}
}

func TestJoinOfWhatIsNoDirectory(t *testing.T) {
	for _, dir := range bad()[1:] {
		for _, part := range []string{"b", "...", strings.Repeat("x", 60), "", "b/c", " "} {
			wantJoin(t, dir, part, "", api.ErrArg)
		}
	}
}

func TestJoinOfTooManyBytes(t *testing.T) {
	for size := 1; size <= 200; size++ {
		for _, more := range []int{1, 2, 30, 59, 60} {
			dir, part := ofSize(size), strings.Repeat("x", more)
			if size+1+more > 200 {
				wantJoin(t, dir, part, "", api.ErrLong)
			} else {
				wantJoin(t, dir, part, dir+"/"+part, api.OK)
			}
		}
	}
	wantJoin(t, ofSize(198), "x", ofSize(198)+"/x", api.OK)
	wantJoin(t, ofSize(199), "x", "", api.ErrLong)
	wantJoin(t, ofSize(200), "x", "", api.ErrLong)
}

func TestJoinOfTooManyParts(t *testing.T) {
	for n := 1; n < 20; n++ {
		wantJoin(t, ofParts(n), "b", ofParts(n)+"/b", api.OK)
	}
	wantJoin(t, ofParts(20), "b", "", api.ErrLong)
	wantJoin(t, ofParts(21), "b", "", api.ErrArg)
}

// Whatever is joined: a path comes of it, or none.
func TestJoinAsTheWordsSay(t *testing.T) {
	texts := append(append(good(), bad()...), short(3, "a./ ")...)
	for _, dir := range texts {
		for _, part := range texts {
			s := strings.TrimPrefix(dir+"/"+part, "/")
			switch {
			case dir != "" && !toldPath(dir), !toldPath(part), strings.Contains(part, "/"):
				wantJoin(t, dir, part, "", api.ErrArg)
			case !toldPath(s):
				wantJoin(t, dir, part, "", api.ErrLong)
			default:
				wantJoin(t, dir, part, s, api.OK)
			}
		}
	}
}
