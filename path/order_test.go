package path_test

import (
	"slices"
	"strings"
	"testing"

	"satchel/path"
)

// wantCompare says how two texts stand, from both sides.
func wantCompare(t *testing.T, a, b string, want int) {
	t.Helper()
	if got := path.Compare(a, b); got != want {
		t.Errorf("Compare(%.70q, %.70q): %d; want %d", a, b, got, want)
	}
	if got := path.Compare(b, a); got != -want {
		t.Errorf("Compare(%.70q, %.70q): %d; want %d", b, a, got, -want)
	}
}

// wantUnder says whether a text lies under another one.
func wantUnder(t *testing.T, s, dir string, want bool) {
	t.Helper()
	if got := path.Under(s, dir); got != want {
		t.Errorf("Under(%.70q, %.70q): %v", s, dir, got)
	}
}

// toldOrder tells how two texts stand as the document's words say it.
func toldOrder(a, b string) int {
	isA, isB := toldPath(a), toldPath(b)
	switch {
	case isA && isB:
		return slices.Compare(strings.Split(a, "/"), strings.Split(b, "/"))
	case !isA && !isB:
		return slices.Compare([]byte(a), []byte(b))
	case isA:
		return 1
	}
	return -1
}

// toldUnder tells whether a text lies under another one as the document's words say it.
func toldUnder(s, dir string) bool {
	l, d := strings.Split(s, "/"), strings.Split(dir, "/")
	return toldPath(s) && toldPath(dir) && len(l) > len(d) && slices.Equal(l[:len(d)], d)
}

func TestExamplesOfOrder(t *testing.T) {
	wantCompare(t, "a/b", "a!", -1)
	wantCompare(t, "a", "a/b", -1)
	wantCompare(t, "a/b", "a/b", 0)
	wantCompare(t, "a b", "a", -1)
	wantUnder(t, "a/b/c", "a", true)
	wantUnder(t, "a", "a", false)
	wantUnder(t, "ab", "a", false)
}

func TestCompareOfPaths(t *testing.T) {
	rising := []string{
		"!", "!/~", "...", "A", "a", "a/!", "a/...", "a/b", "a/b/!", "a/b/c", "a/b/c/d", "a/b!", "a/b!/a", "a/b.", "a/b0", "a/c", "a/~", "a/~/~",
		"a!", "a!/a", "a-", "a-/b", "a.", "a./b", "a0", "a0/b", "aa", "ab", "ab/a", "b", "b/a", "~", "~/~", "~~",
	}
	for i, a := range rising {
		wantCompare(t, a, a, 0)
		for _, b := range rising[i+1:] {
			wantCompare(t, a, b, -1)
		}
	}
}

// The last part of many counts as the first one does.
func TestCompareOfTheLastPart(t *testing.T) {
	lead := strings.Repeat("ab/", 19)
	wantCompare(t, lead+"a", lead+"a", 0)
	wantCompare(t, lead+"a", lead+"a!", -1)
	wantCompare(t, lead+"a", lead+"b", -1)
	wantCompare(t, lead+"z", lead[:len(lead)-1], 1)
	wantCompare(t, lead+"z", "ab/ac", -1)
	wantCompare(t, ofSize(199), ofSize(200), toldOrder(ofSize(199), ofSize(200)))
}

func TestCompareOfWhatIsNoPath(t *testing.T) {
	for _, a := range bad() {
		wantCompare(t, a, a, 0)
		for _, b := range good() {
			wantCompare(t, a, b, -1)
		}
		for _, b := range bad() {
			wantCompare(t, a, b, strings.Compare(a, b))
		}
	}
	wantCompare(t, "~ ", "!", -1)
	wantCompare(t, "\xff", "!", -1)
	wantCompare(t, ofSize(201), ofSize(200), -1)
	wantCompare(t, "a b", "a c", -1)
	wantCompare(t, "a//b", "a!/", 1) // as bytes are, not part by part
	wantCompare(t, "", "/", -1)
	wantCompare(t, "a/", "a//", -1)
	wantCompare(t, "\x7f", "\x80", -1)
}

func TestCompareAsTheWordsSay(t *testing.T) {
	texts := append(append(good(), bad()...), short(4, "a/! .")...)
	for _, a := range texts {
		for _, b := range texts {
			if got := path.Compare(a, b); got != toldOrder(a, b) {
				t.Fatalf("Compare(%.70q, %.70q): %d", a, b, got)
			}
		}
	}
}

// What follows: what is ahead of what is ahead is ahead. (P7.4)
func TestTheOrderIsOne(t *testing.T) {
	texts := append(append(good(), bad()...), short(2, "a/! ")...)
	slices.Sort(texts)
	texts = slices.Compact(texts)
	order := make(map[[2]int]int)
	for i, a := range texts {
		for j, b := range texts {
			order[[2]int{i, j}] = path.Compare(a, b)
		}
	}
	for i := range texts {
		for j := range texts {
			if n := order[[2]int{i, j}]; n != -order[[2]int{j, i}] || (n == 0) != (i == j) {
				t.Fatalf("%.70q and %.70q: %d", texts[i], texts[j], n)
			}
			for k := range texts {
				if order[[2]int{i, j}] < 0 && order[[2]int{j, k}] < 0 && order[[2]int{i, k}] >= 0 {
					t.Fatalf("%.70q, %.70q, %.70q", texts[i], texts[j], texts[k])
				}
			}
		}
	}
}

// paths tells many paths, rising, each once.
func paths() []string {
	var l []string
	for _, s := range append(good(), short(5, "a!/b")...) {
		if toldPath(s) {
			l = append(l, s)
		}
	}
	slices.SortFunc(l, path.Compare)
	return slices.Compact(l)
}

// What follows: a path is behind its Parent. (P7.4)
func TestAPathIsBehindItsParent(t *testing.T) {
	for _, s := range paths() {
		if dir, is := path.Parent(s); is {
			wantCompare(t, dir, s, -1)
			wantUnder(t, s, dir, true)
			wantUnder(t, dir, s, false)
		}
	}
}

// What follows: what lies under a path stands right behind it, ahead of all that does not, and is behind it. (P7.4)
func TestWhatLiesUnderStandsRightBehind(t *testing.T) {
	l := paths()
	for i, dir := range l {
		under := true
		for j, s := range l {
			is := path.Under(s, dir)
			under = under && (j <= i || is)
			if is != (j > i && under) {
				t.Fatalf("%.70q under %.70q: %v, at %d and %d", s, dir, is, j, i)
			}
		}
	}
}

func TestUnder(t *testing.T) {
	for s, dirs := range map[string][]string{
		"a/b": {"a"}, "a/b/c": {"a", "a/b"}, "ab/c": {"ab"}, ".../a": {"..."}, "a/b/c/d": {"a", "a/b", "a/b/c"},
		ofParts(20): {ofParts(1), ofParts(10), ofParts(19)},
	} {
		for _, dir := range dirs {
			wantUnder(t, s, dir, true)
			wantUnder(t, dir, s, false)
			wantUnder(t, s, s, false)
		}
	}
	for s, dirs := range map[string][]string{
		"a": {"a", "b", "a/b"}, "ab": {"a"}, "ab/c": {"a", "b", "c"}, "a/b": {"b", "a/", "A", "a/b", "a/b/c", ""}, "a/bc": {"a/b"}, "a!/b": {"a"}, "b/a": {"a"}, "b/a/c": {"a"},
	} {
		for _, dir := range dirs {
			wantUnder(t, s, dir, false)
		}
	}
}

func TestUnderOfWhatIsNoPath(t *testing.T) {
	for _, a := range bad() {
		for _, b := range append(good(), bad()...) {
			wantUnder(t, a, b, false)
			wantUnder(t, b, a, false)
		}
		wantUnder(t, "a"+a, "a", toldUnder("a"+a, "a"))
		wantUnder(t, a+"/b", a, false)
	}
	wantUnder(t, "a/b/", "a", false)
	wantUnder(t, "a//b", "a", false)
	wantUnder(t, "a/ ", "a", false)
	wantUnder(t, "a/..", "a", false)
	wantUnder(t, ofParts(21), "a", false)
	wantUnder(t, ofSize(201), strings.Repeat("a", 49), false)
	wantUnder(t, ofSize(200), strings.Repeat("a", 49), true)
}

func TestUnderAsTheWordsSay(t *testing.T) {
	texts := append(append(good(), bad()...), short(4, "a/! .")...)
	for _, s := range texts {
		for _, dir := range texts {
			if got := path.Under(s, dir); got != toldUnder(s, dir) {
				t.Fatalf("Under(%.70q, %.70q): %v", s, dir, got)
			}
		}
	}
}
