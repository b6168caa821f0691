package disk_test

import (
	"fmt"
	"math"
	"slices"
	"strings"
	"testing"

	"satchel/api"
	"satchel/disk"
)

// mayBe tells whether a name may have a byte, in another way than the program.
func mayBe(c byte) bool { return strings.IndexByte("abcdefghijklmnopqrstuvwxyz0123456789-./", c) >= 0 }

// notNames are names that no file has.
func notNames() []string {
	l := []string{"", named(61), named(62), named(64), strings.Repeat("a", 256+10), strings.Repeat("a", 1<<16+10), "A", "a b", "ä", "aé", "\x00", "a\x00", "a\n"}
	for c := range 256 {
		if !mayBe(byte(c)) {
			bad := string([]byte{byte(c)})
			l = append(l, bad, bad+"a", "a"+bad, "a"+bad+"b", named(59)+bad, bad+named(59), named(30)+bad+named(29))
		}
	}
	return l
}

// names are names that a file may have.
func names() []string {
	l := []string{named(1), named(2), named(59), named(60), strings.Repeat("/", 60), strings.Repeat("z", 60), "..", "//", "a/../b", "-", "index.tmp", "pack/000001"}
	for c := range 256 {
		if mayBe(byte(c)) {
			ok := string([]byte{byte(c)})
			l = append(l, ok, ok+"a", "q"+ok, named(59)+ok, named(30)+ok+named(29))
		}
	}
	slices.Sort(l)
	return slices.Compact(l)
}

func TestAppendNames(t *testing.T) {
	d := newDisk(t, maxRoom)
	for _, name := range notNames() {
		wantErr(t, fmt.Sprintf("Append(%.70q)", name), d.Append(name, []byte{1}), api.ErrArg)
		wantErr(t, fmt.Sprintf("Append(%.70q) of none", name), d.Append(name, nil), api.ErrArg)
		wantErr(t, fmt.Sprintf("Append(%.70q) of too much", name), d.Append(name, tooMuch), api.ErrArg)
		wantNoRead(t, d, name, api.ErrMissing)
		wantErr(t, "Sync", d.Sync(name), api.ErrMissing)
		wantErr(t, "Remove", d.Remove(name), api.ErrMissing)
		wantErr(t, "Rename", d.Rename(name, "a"), api.ErrMissing)
		wantErr(t, "Flip", d.Flip(name, 0), api.ErrMissing)
	}
	wantFiles(t, "no names", d)
	wantSteps(t, d, 0)
	l := names()
	var want []has
	for i, name := range l {
		wantErr(t, fmt.Sprintf("Append(%q)", name), d.Append(name, []byte{byte(i)}), api.OK)
		want = append(want, has{name, []byte{byte(i)}, 1})
	}
	wantFiles(t, "names", d, want...)
}

func TestRenameNames(t *testing.T) {
	d := diskOf(t, safe("a", 1))
	steps := d.Steps()
	for _, name := range notNames() {
		wantErr(t, fmt.Sprintf("Rename to %.70q", name), d.Rename("a", name), api.ErrArg)
		wantErr(t, fmt.Sprintf("Rename of none to %.70q", name), d.Rename("x", name), api.ErrArg)
		wantErr(t, fmt.Sprintf("Rename of and to %.70q", name), d.Rename(name, name), api.ErrArg)
	}
	wantFiles(t, "no names", d, safe("a", 1))
	wantSteps(t, d, steps)
	is := "a"
	for _, name := range names() {
		wantErr(t, fmt.Sprintf("Rename to %q", name), d.Rename(is, name), api.OK)
		is = name
		wantFiles(t, "names", d, safe(name, 1))
	}
}

func TestAppend(t *testing.T) {
	d := newDisk(t, 10)
	wantErr(t, "Append", d.Append("b", []byte{1, 2}), api.OK)
	wantErr(t, "Append", d.Append("b", []byte{3}), api.OK)
	wantErr(t, "Append of none", d.Append("b", nil), api.OK)
	wantFiles(t, "under way", d, has{"b", []byte{1, 2, 3}, 3})
	wantErr(t, "Sync", d.Sync("b"), api.OK)
	wantErr(t, "Append", d.Append("b", []byte{4, 5}), api.OK)
	wantErr(t, "Append", d.Append("a", []byte{6, 7, 8, 9}), api.OK)
	wantFiles(t, "two", d, has{"a", []byte{6, 7, 8, 9}, 4}, has{"b", []byte{1, 2, 3, 4, 5}, 2})
	wantErr(t, "Append of two more than there is room for", d.Append("b", []byte{10, 11}), api.ErrFull)
	wantErr(t, "Append of two more than there is room for", d.Append("c", []byte{10, 11}), api.ErrFull)
	wantErr(t, "Append of the last one", d.Append("a", []byte{10}), api.OK)
	wantErr(t, "Append of one more", d.Append("a", []byte{11}), api.ErrFull)
	wantErr(t, "Append of none", d.Append("c", nil), api.OK)
	wantErr(t, "Append of none", d.Append("c", []byte{}), api.OK)
	wantFiles(t, "full", d, has{"a", []byte{6, 7, 8, 9, 10}, 5}, has{"b", []byte{1, 2, 3, 4, 5}, 2}, safe("c"))
	wantSteps(t, d, 9)
	if n := d.Loose("x"); n != 0 {
		t.Error(n)
	}
	for _, name := range []string{"x", "", "A", "bb", "\x00"} {
		wantNoRead(t, d, name, api.ErrMissing)
	}
}

// A file that was appended to is from then on, though it has no bytes, and though it was never synced.
func TestFileOfNoBytes(t *testing.T) {
	d := newDisk(t, 1)
	wantErr(t, "Append", d.Append("a", nil), api.OK)
	wantErr(t, "Append", d.Append("b", []byte{1}), api.OK)
	wantFiles(t, "there", d, safe("a"), has{"b", []byte{1}, 1})
	wantErr(t, "Crash", d.Crash(nil), api.OK)
	wantFiles(t, "crashed", d, safe("a"), safe("b"))
	wantErr(t, "Flip", d.Flip("a", 0), api.ErrRange)
	wantErr(t, "Sync", d.Sync("a"), api.OK)
	wantErr(t, "Rename", d.Rename("a", "c"), api.OK)
	wantFiles(t, "renamed", d, safe("b"), safe("c"))
	wantErr(t, "Remove", d.Remove("c"), api.OK)
	wantFiles(t, "removed", d, safe("b"))
}

// The room is of all files together, whatever is safe of them, and is free again when one is gone.
func TestRoomIsFreeAgain(t *testing.T) {
	d := newDisk(t, 6)
	for range 20 {
		wantErr(t, "Append", d.Append("a", []byte{1, 2, 3}), api.OK)
		wantErr(t, "Sync", d.Sync("a"), api.OK)
		wantErr(t, "Append", d.Append("b", []byte{4, 5, 6}), api.OK)
		wantErr(t, "Append", d.Append("b", []byte{7}), api.ErrFull)
		wantErr(t, "Sync", d.Sync("b"), api.OK)
		wantErr(t, "Rename", d.Rename("b", "a"), api.OK)
		wantErr(t, "Append", d.Append("a", []byte{7, 8, 9}), api.OK)
		wantErr(t, "Append", d.Append("a", []byte{1}), api.ErrFull)
		wantErr(t, "Crash", d.Crash([]int{1}), api.OK)
		wantFiles(t, "behind a crash", d, safe("a", 4, 5, 6, 7))
		wantErr(t, "Append", d.Append("a", []byte{7, 8}), api.OK)
		wantErr(t, "Append", d.Append("a", []byte{9}), api.ErrFull)
		wantErr(t, "Remove", d.Remove("a"), api.OK)
		wantFiles(t, "empty", d)
	}
}

// crowd tells a disk of so many files of no bytes.
func crowd(t *testing.T, size int) *disk.Disk {
	t.Helper()
	d := newDisk(t, 10)
	for i := range size {
		wantErr(t, "Append", d.Append(fmt.Sprintf("f%04d", i), nil), api.OK)
	}
	return d
}

func TestMostFiles(t *testing.T) {
	d := crowd(t, 999)
	wantErr(t, "the 1,000th", d.Append("g", []byte{1}), api.OK)
	for range 2 {
		wantErr(t, "one more", d.Append("h", []byte{1}), api.ErrFull)
		wantErr(t, "one more of none", d.Append("h", nil), api.ErrFull)
		wantErr(t, "one that may not be", d.Append("H", nil), api.ErrArg)
		if l := d.Names(""); len(l) != 1000 || l[999] != "g" {
			t.Error(len(l))
		}
	}
	wantSteps(t, d, 1000)
	wantErr(t, "one that is there", d.Append("g", []byte{2}), api.OK)
	wantErr(t, "one that is there", d.Append("f0000", []byte{2}), api.OK)
	wantErr(t, "Sync", d.Sync("g"), api.OK)
	wantErr(t, "Rename", d.Rename("g", "h"), api.OK)
	wantErr(t, "another one", d.Append("g", nil), api.ErrFull)
	wantErr(t, "Rename onto one", d.Rename("h", "f0999"), api.OK)
	wantErr(t, "Rename onto one", d.Rename("f0001", "f0002"), api.OK)
	wantErr(t, "the 1,000th", d.Append("g", nil), api.OK)
	wantErr(t, "one more", d.Append("h", nil), api.ErrFull)
	wantErr(t, "Remove", d.Remove("f0500"), api.OK)
	wantErr(t, "the 1,000th", d.Append("h", nil), api.OK)
	wantErr(t, "Crash", d.Crash(nil), api.OK)
	wantErr(t, "one more", d.Append("i", nil), api.ErrFull)
	if l := d.Names(""); len(l) != 1000 || !slices.IsSorted(l) {
		t.Error(len(l))
	}
}

func TestSync(t *testing.T) {
	d := diskOf(t, has{"a", []byte{1, 2}, 1}, has{"b", []byte{3, 4}, 2})
	wantErr(t, "Sync", d.Sync("b"), api.OK)
	wantFiles(t, "b is safe", d, has{"a", []byte{1, 2}, 1}, safe("b", 3, 4))
	wantErr(t, "Sync again", d.Sync("b"), api.OK)
	for _, name := range []string{"c", "", "A", "aa", named(61)} {
		wantErr(t, "Sync of none", d.Sync(name), api.ErrMissing)
	}
	wantErr(t, "Crash", d.Crash(nil), api.OK)
	wantFiles(t, "behind a crash", d, safe("a", 1), safe("b", 3, 4))
	wantErr(t, "Sync", d.Sync("a"), api.OK)
	wantErr(t, "Append", d.Append("a", []byte{5, 6}), api.OK)
	wantErr(t, "Sync", d.Sync("a"), api.OK)
	wantErr(t, "Append", d.Append("a", []byte{7}), api.OK)
	wantFiles(t, "more", d, has{"a", []byte{1, 5, 6, 7}, 1}, safe("b", 3, 4))
}

func TestRename(t *testing.T) {
	d := diskOf(t, safe("a", 1, 2), safe("b", 3), has{"c", []byte{4, 5}, 1}, safe("e"))
	wantErr(t, "to a name that may not be, of none", d.Rename("x", "X"), api.ErrArg)
	wantErr(t, "of none", d.Rename("x", "y"), api.ErrMissing)
	wantErr(t, "of none onto one", d.Rename("x", "a"), api.ErrMissing)
	wantErr(t, "of none onto itself", d.Rename("x", "x"), api.ErrMissing)
	wantErr(t, "to a name that may not be, under way", d.Rename("c", "C"), api.ErrArg)
	wantErr(t, "under way", d.Rename("c", "d"), api.ErrState)
	wantErr(t, "under way, onto one", d.Rename("c", "a"), api.ErrState)
	wantErr(t, "under way, onto itself", d.Rename("c", "c"), api.ErrState)
	wantFiles(t, "refused", d, safe("a", 1, 2), safe("b", 3), has{"c", []byte{4, 5}, 1}, safe("e"))
	steps := d.Steps()
	wantErr(t, "onto itself", d.Rename("a", "a"), api.OK)
	wantErr(t, "to one that is not there", d.Rename("a", "d"), api.OK)
	wantFiles(t, "renamed", d, safe("b", 3), has{"c", []byte{4, 5}, 1}, safe("d", 1, 2), safe("e"))
	wantErr(t, "onto one that is under way", d.Rename("b", "c"), api.OK)
	wantFiles(t, "onto one", d, safe("c", 3), safe("d", 1, 2), safe("e"))
	wantErr(t, "of none onto one", d.Rename("e", "d"), api.OK)
	wantFiles(t, "onto one", d, safe("c", 3), safe("d"))
	wantSteps(t, d, steps+4)
	wantErr(t, "of what was renamed", d.Rename("e", "f"), api.ErrMissing)
	wantErr(t, "Crash", d.Crash([]int{1, 1, 1}), api.OK)
	wantFiles(t, "at once", d, safe("c", 3), safe("d"))
	wantErr(t, "Append", d.Append("e", []byte{9}), api.OK)
	wantErr(t, "Append", d.Append("c", []byte{8}), api.OK)
	wantFiles(t, "of their own", d, has{"c", []byte{3, 8}, 1}, safe("d"), has{"e", []byte{9}, 1})
}

func TestRemove(t *testing.T) {
	d := diskOf(t, safe("a", 1, 2), safe("b", 3), has{"c", []byte{4, 5}, 1})
	for _, name := range []string{"x", "", "A", "aa", named(61)} {
		wantErr(t, "Remove of none", d.Remove(name), api.ErrMissing)
	}
	steps := d.Steps()
	wantErr(t, "Remove", d.Remove("a"), api.OK)
	wantErr(t, "Remove again", d.Remove("a"), api.ErrMissing)
	wantErr(t, "Remove of what is under way", d.Remove("c"), api.OK)
	wantFiles(t, "removed", d, safe("b", 3))
	wantSteps(t, d, steps+2)
	wantErr(t, "Crash", d.Crash([]int{1, 1, 1}), api.OK)
	wantFiles(t, "at once", d, safe("b", 3))
	wantNoRead(t, d, "a", api.ErrMissing)
	wantErr(t, "Append", d.Append("c", []byte{9}), api.OK)
	wantFiles(t, "anew", d, safe("b", 3), has{"c", []byte{9}, 1})
	if n := d.Loose("a"); n != 0 {
		t.Error(n)
	}
}

// What there is is found by its whole name alone.
func TestFoundByItsWholeName(t *testing.T) {
	d := diskOf(t, safe(named(60), 1))
	for i := range 60 {
		wantNoRead(t, d, named(i), api.ErrMissing)
	}
	wantNoRead(t, d, named(60)+"a", api.ErrMissing)
	wantErr(t, "Flip", d.Flip(named(59), 0), api.ErrMissing)
	wantErr(t, "Flip", d.Flip("", math.MinInt), api.ErrMissing)
	wantFiles(t, "there", d, safe(named(60), 1))
}
