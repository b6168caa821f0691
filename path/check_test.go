package path_test

import (
	"strings"
	"testing"

	"satchel/api"
	"satchel/path"
)

// wantCheck says what is wrong with a path: of no error, nothing.
func wantCheck(t *testing.T, s string, err api.Errno, at int) {
	t.Helper()
	want := api.Fault{Err: err, At: at}
	if got := path.Check(s); got != want {
		t.Errorf("Check(%.70q), of %d bytes: %+v; want %+v", s, len(s), got, want)
	}
}

func TestExamplesOfCheck(t *testing.T) {
	wantCheck(t, "a/b.c", api.OK, 0)
	wantCheck(t, "", api.ErrArg, 0)
	wantCheck(t, "a//b", api.ErrArg, 2)
	wantCheck(t, "a/", api.ErrArg, 2)
	wantCheck(t, "a/../b", api.ErrArg, 2)
	wantCheck(t, "a b", api.ErrBytes, 1)
	wantCheck(t, strings.Repeat("a", 61), api.ErrLong, 60)
}

func TestCheckOfPaths(t *testing.T) {
	for _, s := range good() {
		wantCheck(t, s, api.OK, 0)
	}
}

func TestCheckOfPoints(t *testing.T) {
	for s, at := range map[string]int{".": 0, "..": 0, "./a": 0, "../a": 0, "a/.": 2, "a/..": 2, "ab/./c": 3, ".../..": 4, "a/b/..": 4} {
		wantCheck(t, s, api.ErrArg, at)
	}
	for _, s := range []string{"...", "....", ".a", "..a", "a.", "a..", ".../...", "a/...", ".a/..b/c..", ".-", "..-"} {
		wantCheck(t, s, api.OK, 0)
	}
	wantCheck(t, ". ", api.ErrBytes, 1)
	wantCheck(t, ".. ", api.ErrBytes, 2)
}

func TestCheckOfEmptyParts(t *testing.T) {
	for s, at := range map[string]int{"/": 0, "//": 0, "/a": 0, "//a": 0, "a//": 2, "a//b": 2, "ab/c/": 5, "a/b//c": 4, "a///b": 2} {
		wantCheck(t, s, api.ErrArg, at)
	}
}

func TestCheckOfEachByte(t *testing.T) {
	for x := range 256 {
		c := string([]byte{byte(x)})
		if c == "/" {
			continue
		}
		err := api.OK
		if x < 33 || x > 126 {
			err = api.ErrBytes
		}
		for lead, s := range map[string]string{"b": "b" + c, "bcd": "bcd" + c + "e", "b/cd": "b/cd" + c + "e/f", "b/": "b/" + c + "c", "": c + "b/c"} {
			if err == api.OK {
				wantCheck(t, s, api.OK, 0)
			} else {
				wantCheck(t, s, err, len(lead))
			}
		}
	}
	wantCheck(t, stands[:47], api.OK, 0)
	wantCheck(t, stands[47:], api.OK, 0)
}

// Of what is more than a byte as a letter the first one is told.
func TestCheckOfBytesThatAreNoLetters(t *testing.T) {
	wantCheck(t, "aé", api.ErrBytes, 1)
	wantCheck(t, "a/b\U0001f600", api.ErrBytes, 3)
	wantCheck(t, "a\xe9", api.ErrBytes, 1)
	wantCheck(t, "a\xf0\x9f", api.ErrBytes, 1)
	wantCheck(t, "a\ufffd", api.ErrBytes, 1)
}

func TestCheckOfLongParts(t *testing.T) {
	for size := 1; size <= 60; size++ {
		part := strings.Repeat("x", size)
		for _, s := range []string{part, "a/" + part, part + "/a", "a/" + part + "/b"} {
			wantCheck(t, s, api.OK, 0)
		}
	}
	for size := 61; size < 190; size++ {
		part := strings.Repeat("x", size)
		wantCheck(t, part, api.ErrLong, 60)
		wantCheck(t, part+"/b", api.ErrLong, 60)
		wantCheck(t, "abc/"+part, api.ErrLong, 64)
		wantCheck(t, "a/"+part+"/b", api.ErrLong, 62)
		wantCheck(t, part+"/", api.ErrLong, 60)
		wantCheck(t, "a/"+part+"//", api.ErrLong, 62)
	}
}

// A byte that may not be is told ahead of the part's 61st, wherever it stands, but not that of a later part.
func TestCheckOfLongPartsWithOtherBytes(t *testing.T) {
	for at := range 100 {
		part := strings.Repeat("x", at) + " " + strings.Repeat("x", 99-at)
		wantCheck(t, part, api.ErrBytes, at)
		wantCheck(t, "a/b/"+part, api.ErrBytes, at+4)
		wantCheck(t, strings.Repeat("x", 61)+"/"+part, api.ErrLong, 60)
		wantCheck(t, part+"/"+strings.Repeat("x", 61), api.ErrBytes, at)
	}
	wantCheck(t, "a b c", api.ErrBytes, 1)
	wantCheck(t, "a/b c/d e", api.ErrBytes, 3)
}

func TestCheckOfManyParts(t *testing.T) {
	for n := 1; n <= 20; n++ {
		wantCheck(t, ofParts(n), api.OK, 0)
	}
	for n := 21; n <= 100; n++ {
		wantCheck(t, ofParts(n), api.ErrLong, 40)
	}
	wantCheck(t, strings.Repeat("abcd/", 19)+"abcd", api.OK, 0)
	wantCheck(t, strings.Repeat("abcd/", 20)+"a", api.ErrLong, 100)
	wantCheck(t, strings.Repeat("abcd/", 20)+"a/b/c", api.ErrLong, 100)
}

// That a part is the 21st is told ahead of all that is wrong with it, but behind what is wrong with those ahead.
func TestCheckOfManyPartsWithOthers(t *testing.T) {
	for _, part := range []string{"", ".", "..", " ", "\xff", strings.Repeat("x", 61), "a", "/", "/a", "a/ "} {
		wantCheck(t, strings.Repeat("a/", 20)+part, api.ErrLong, 40)
	}
	lead := strings.Repeat("a/", 19)
	for part, err := range map[string]api.Errno{"": api.ErrArg, ".": api.ErrArg, "..": api.ErrArg, " ": api.ErrBytes, "\x7f": api.ErrBytes} {
		wantCheck(t, lead+part, err, 38)
		wantCheck(t, lead+part+"/a", err, 38)
		wantCheck(t, part+"/"+lead+"a/a", err, 0)
	}
	wantCheck(t, lead+strings.Repeat("x", 61)+"/a", api.ErrLong, 98)
}

func TestCheckOfLongTexts(t *testing.T) {
	for size := 1; size <= 200; size++ {
		wantCheck(t, ofSize(size), api.OK, 0)
	}
	for _, size := range []int{201, 202, 203, 250, 251, 400, 1000, 1 << 20} {
		wantCheck(t, ofSize(size), api.ErrLong, 200)
	}
}

// That there are more than 200 bytes is told ahead of all that is wrong with them; of 200 what is wrong is told.
func TestCheckOfLongTextsWithOthers(t *testing.T) {
	for piece, f := range map[string]api.Fault{
		"/": {Err: api.ErrArg}, ".": {Err: api.ErrLong, At: 60}, " ": {Err: api.ErrBytes}, "\xff": {Err: api.ErrBytes}, "a": {Err: api.ErrLong, At: 60},
		"./": {Err: api.ErrArg}, "a/": {Err: api.ErrLong, At: 40}, "a//b": {Err: api.ErrArg, At: 2},
	} {
		wantCheck(t, strings.Repeat(piece, 200)[:200], f.Err, f.At)
		for _, size := range []int{201, 202, 1 << 12} {
			wantCheck(t, strings.Repeat(piece, size)[:size], api.ErrLong, 200)
		}
	}
	wantCheck(t, ofSize(199)+"/", api.ErrArg, 200)
	wantCheck(t, ofSize(199)+" ", api.ErrBytes, 199)
	wantCheck(t, ofSize(200)+"/", api.ErrLong, 200)
	wantCheck(t, ofSize(200)+" ", api.ErrLong, 200)
}

// What is told is as the words say it, of all short texts, and of these behind and ahead of longer ones.
func TestCheckAsTheWordsSay(t *testing.T) {
	var all []string
	for _, s := range short(5, "a./ ~\x7f") {
		all = append(all, s, ofParts(19)+"/"+s, s+"/"+ofParts(19), strings.Repeat("a", 58)+s, ofSize(197)+s)
	}
	all = append(append(all, good()...), bad()...)
	for _, s := range all {
		f := told(s)
		wantCheck(t, s, f.Err, f.At)
	}
}

func TestBadAreNoPaths(t *testing.T) {
	for _, s := range bad() {
		if f := path.Check(s); f.Err == api.OK {
			t.Errorf("%.70q is a path", s)
		}
	}
}
