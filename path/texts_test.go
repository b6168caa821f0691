package path_test

import (
	"slices"
	"strings"

	"satchel/api"
)

// stands holds each byte that may stand in a part.
const stands = "!\"#$%&'()*+,-.0123456789:;<=>?@ABCDEFGHIJKLMNOPQRSTUVWXYZ[\\]^_`abcdefghijklmnopqrstuvwxyz{|}~"

// ofSize tells a path of so many bytes, the last of which is b.
func ofSize(size int) string {
	return strings.Repeat(strings.Repeat("a", 49)+"/", size/50+1)[:size-1] + "b"
}

// ofParts tells a path of so many parts of one byte.
func ofParts(n int) string { return strings.Repeat("a/", n-1) + "a" }

// told tells what is wrong with a path as the document's words say it.
func told(s string) api.Fault {
	if len(s) == 0 {
		return api.Fault{Err: api.ErrArg, At: 0}
	}
	if len(s) > 200 {
		return api.Fault{Err: api.ErrLong, At: 200}
	}
	begin := 0
	for i, part := range strings.Split(s, "/") {
		if i == 20 {
			return api.Fault{Err: api.ErrLong, At: begin}
		}
		if slices.Contains([]string{"", ".", ".."}, part) {
			return api.Fault{Err: api.ErrArg, At: begin}
		}
		for at, c := range []byte(part) {
			if strings.IndexByte(stands, c) < 0 {
				return api.Fault{Err: api.ErrBytes, At: begin + at}
			}
		}
		if len(part) > 60 {
			return api.Fault{Err: api.ErrLong, At: begin + 60}
		}
		begin += len(part) + 1
	}
	return api.Fault{}
}

// toldPath tells whether a text is a path.
func toldPath(s string) bool { return told(s) == api.Fault{} }

// short tells all texts of up to so many of these bytes.
func short(most int, letters string) []string {
	l := []string{""}
	for begin := 0; most > 0; most-- {
		end := len(l)
		for _, s := range l[begin:end] {
			for i := range len(letters) {
				l = append(l, s+letters[i:i+1])
			}
		}
		begin = end
	}
	return l
}

// good are paths, of which several begin with others, as bytes or by parts.
func good() []string {
	return []string{
		"a", "a/b", "a/b/c", "a/b.c", "a/bc", "a!", "a!/b", "a.", "a-b", "a-b/c", "a0", "ab", "ab/c", "b", "b/a", "A", "A/b", "Z/z",
		"...", ".../a", "a/...", "....", ".a", "a.b", "..a", "a/..a", ".!", "!", "!/!", "~", "~/~", "~~", "-", "0", "a/~", "a/!",
		strings.Repeat("a", 59), strings.Repeat("a", 60), "b/" + strings.Repeat("a", 60), strings.Repeat("a", 60) + "/b", strings.Repeat("~", 60),
		ofParts(2), ofParts(3), ofParts(19), ofParts(20), ofSize(50), ofSize(51), ofSize(199), ofSize(200),
		strings.Repeat(strings.Repeat("a", 60)+"/", 3) + strings.Repeat("b", 17),
	}
}

// bad are texts that are no paths.
func bad() []string {
	return []string{
		"", "/", "//", "/a", "a/", "a//b", "//a", "a//", "a/b/", "/a/b", ".", "..", "./a", "../a", "a/.", "a/..", "a/./b", "a/../b", "a/.../..",
		" ", "a b", " a", "a ", "a/ ", " /a", "\x00", "\x1f", "a\x7f", "\x7f", "\x80", "a/\xff", "\xff", "é", "a/é/b", "a\n",
		strings.Repeat("a", 61), "a/" + strings.Repeat("a", 61), strings.Repeat("a", 61) + "/b", strings.Repeat("a", 61) + " ",
		ofParts(21), ofParts(22), ofParts(20) + "/", ofParts(100), ofSize(201), ofSize(250), strings.Repeat("a", 200), strings.Repeat("a", 201), strings.Repeat("/", 300), strings.Repeat(" ", 1000),
	}
}
