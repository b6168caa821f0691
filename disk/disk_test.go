package disk_test

import (
	"math"
	"slices"
	"testing"

	"satchel/api"
	"satchel/disk"
)

// The chapter's examples, in their order.
func TestExamples(t *testing.T) {
	d := newDisk(t, 10)
	wantErr(t, "Append", d.Append("a", []byte{1, 2, 3}), api.OK)
	wantErr(t, "Sync", d.Sync("a"), api.OK)
	wantErr(t, "Append", d.Append("a", []byte{4, 5}), api.OK)
	wantFiles(t, "ahead of the crash", d, has{"a", []byte{1, 2, 3, 4, 5}, 2})
	wantErr(t, "Crash", d.Crash([]int{1}), api.OK)
	wantFiles(t, "behind the crash", d, safe("a", 1, 2, 3, 4))

	wantErr(t, "Append", d.Append("a", make([]byte, 7)), api.ErrFull)
	wantErr(t, "Append", d.Append("b", nil), api.OK)
	wantFiles(t, "with b", d, safe("a", 1, 2, 3, 4), safe("b"))
	wantSteps(t, d, 4)

	wantErr(t, "Append", d.Append("b", []byte{9}), api.OK)
	wantErr(t, "Rename", d.Rename("b", "c"), api.ErrState)
	wantErr(t, "Sync", d.Sync("b"), api.OK)
	wantErr(t, "Rename", d.Rename("b", "a"), api.OK)
	wantFiles(t, "renamed", d, safe("a", 9))

	wantErr(t, "Fuse", d.Fuse(1), api.OK)
	wantErr(t, "Append", d.Append("a", []byte{1}), api.OK)
	wantErr(t, "Append", d.Append("a", []byte{2}), api.ErrBroken)
	if d.Up() {
		t.Error("it is up")
	}
	wantErr(t, "Crash", d.Crash(nil), api.OK)
	wantFiles(t, "up again", d, safe("a", 9))
	wantErr(t, "Flip", d.Flip("a", 3), api.OK)
	wantFiles(t, "flipped", d, safe("a", 1))

	wantErr(t, "Append", d.Append("A", []byte{1}), api.ErrArg)
	wantErr(t, "Remove", d.Remove("x"), api.ErrMissing)
	wantErr(t, "Flip", d.Flip("a", 8), api.ErrRange)
	if d, err := disk.New(-1); d != nil || err != api.ErrRange {
		t.Error(d, err)
	}
}

func TestNew(t *testing.T) {
	for _, room := range []int{0, 1, 10, maxRoom - 1, maxRoom} {
		d := newDisk(t, room)
		wantFiles(t, "new", d)
		wantSteps(t, d, 0)
		for range 3 {
			wantErr(t, "Append of none", d.Append("a", nil), api.OK)
		}
		wantErr(t, "Append of a byte more", d.Append("a", make([]byte, room+1)), api.ErrFull)
		wantErr(t, "Append of just so many", d.Append("a", make([]byte, room)), api.OK)
		wantErr(t, "Append of one more", d.Append("b", []byte{1}), api.ErrFull)
		wantFiles(t, "full", d, has{"a", make([]byte, room), room})
		wantSteps(t, d, 4)
	}
	for _, room := range notRooms {
		if d, err := disk.New(room); d != nil || err != api.ErrRange {
			t.Errorf("New(%d): %v, %v", room, d, err)
		}
	}
}

// Two disks have nothing to do with one another.
func TestDisksAreOfTheirOwn(t *testing.T) {
	d, e := newDisk(t, 10), newDisk(t, 10)
	wantErr(t, "Append", d.Append("a", []byte{1}), api.OK)
	wantErr(t, "Fuse", d.Fuse(0), api.OK)
	wantErr(t, "Sync", d.Sync("a"), api.ErrBroken)
	wantFiles(t, "the other one", e)
	wantSteps(t, e, 0)
	wantErr(t, "Append", e.Append("a", []byte{2}), api.OK)
	wantErr(t, "Crash", e.Crash([]int{1}), api.OK)
	if d.Up() || d.Loose("a") != 1 {
		t.Error("the first one crashed, too")
	}
}

func TestResize(t *testing.T) {
	d := diskOf(t, safe("a", 1, 2, 3), has{"b", []byte{4, 5}, 1})
	for _, room := range []int{0, 1, 4, 5, 6, maxRoom - 1, maxRoom, 5} {
		wantErr(t, "Resize", d.Resize(room), api.OK)
		wantFiles(t, "of another room", d, safe("a", 1, 2, 3), has{"b", []byte{4, 5}, 1})
	}
	for _, room := range notRooms {
		wantErr(t, "Resize", d.Resize(room), api.ErrRange)
	}
	wantErr(t, "Append", d.Append("a", []byte{6}), api.ErrFull)
	wantErr(t, "Append of none", d.Append("a", nil), api.OK)
	wantErr(t, "Resize", d.Resize(6), api.OK)
	wantErr(t, "Append", d.Append("a", []byte{6}), api.OK)
	wantErr(t, "Append", d.Append("a", []byte{7}), api.ErrFull)
	wantFiles(t, "full", d, has{"a", []byte{1, 2, 3, 6}, 1}, has{"b", []byte{4, 5}, 1})
}

// A room that is less than what is there lets all but Append go on as it was: even of no bytes.
func TestResizeBelowWhatIsThere(t *testing.T) {
	d := diskOf(t, safe("a", 1, 2, 3), has{"b", []byte{4, 5}, 1}, safe("c"))
	wantErr(t, "Resize", d.Resize(4), api.OK)
	for _, name := range []string{"a", "b", "c", "d"} {
		wantErr(t, "Append", d.Append(name, []byte{1}), api.ErrFull)
		wantErr(t, "Append of none", d.Append(name, nil), api.ErrFull)
	}
	wantErr(t, "Append", d.Append("A", nil), api.ErrArg)
	wantErr(t, "Sync", d.Sync("b"), api.OK)
	wantErr(t, "Rename", d.Rename("b", "e"), api.OK)
	wantErr(t, "Crash", d.Crash(nil), api.OK)
	wantFiles(t, "more than the room", d, safe("a", 1, 2, 3), safe("c"), safe("e", 4, 5))
	wantErr(t, "Rename", d.Rename("c", "e"), api.OK)
	wantErr(t, "Append of none", d.Append("d", nil), api.OK)
	wantErr(t, "Append", d.Append("d", []byte{6}), api.OK)
	wantErr(t, "Append", d.Append("d", []byte{7}), api.ErrFull)
	wantFiles(t, "just the room", d, safe("a", 1, 2, 3), has{"d", []byte{6}, 1}, safe("e"))
}

// A disk that is out may have another room, and has it when it is up again.
func TestResizeOfOneThatIsOut(t *testing.T) {
	d := diskOf(t, safe("a", 1))
	d.Fuse(0)
	wantErr(t, "Sync", d.Sync("a"), api.ErrBroken)
	wantErr(t, "Resize", d.Resize(-1), api.ErrRange)
	wantErr(t, "Resize", d.Resize(2), api.OK)
	if d.Up() {
		t.Error("it is up")
	}
	wantErr(t, "Crash", d.Crash(nil), api.OK)
	wantErr(t, "Append", d.Append("a", []byte{2, 3}), api.ErrFull)
	wantErr(t, "Append", d.Append("a", []byte{2}), api.OK)
	wantFiles(t, "full", d, has{"a", []byte{1, 2}, 1})
}

// noDisks are disks that New did not answer.
func noDisks(t *testing.T) []*disk.Disk {
	t.Helper()
	full := diskOf(t, safe("a", 1, 2), has{"b", []byte{3, 4}, 1})
	out := diskOf(t, safe("a", 1, 2))
	out.Fuse(0)
	out.Remove("a")
	return []*disk.Disk{nil, {}, new(disk.Disk), copied(full), copied(out)}
}

func TestNoDisk(t *testing.T) {
	for _, d := range noDisks(t) {
		for _, name := range []string{"a", "b", "", "A", "x", named(60)} {
			wantErr(t, "Append", d.Append(name, []byte{1}), api.ErrNil)
			wantErr(t, "Append of none", d.Append(name, nil), api.ErrNil)
			wantErr(t, "Append of much", d.Append(name, tooMuch), api.ErrNil)
			wantErr(t, "Sync", d.Sync(name), api.ErrNil)
			wantErr(t, "Remove", d.Remove(name), api.ErrNil)
			wantNoRead(t, d, name, api.ErrNil)
			for _, to := range []string{"a", "b", "", "A", "x"} {
				wantErr(t, "Rename", d.Rename(name, to), api.ErrNil)
			}
			for _, bit := range []int{math.MinInt, -1, 0, 15, 16, math.MaxInt} {
				wantErr(t, "Flip", d.Flip(name, bit), api.ErrNil)
			}
			if n := d.Loose(name); n != 0 {
				t.Error("Loose", n)
			}
			if l := d.Names(name); len(l) > 0 {
				t.Error("Names", l)
			}
		}
		for _, n := range []int{math.MinInt, -1, 0, 1, maxRoom, maxRoom + 1, math.MaxInt} {
			wantErr(t, "Fuse", d.Fuse(n), api.ErrNil)
			wantErr(t, "Resize", d.Resize(n), api.ErrNil)
			wantErr(t, "Crash", d.Crash([]int{n}), api.ErrNil)
		}
		wantErr(t, "Crash", d.Crash(nil), api.ErrNil)
		if d.Used() != 0 || d.Steps() != 0 || d.Up() {
			t.Error(d.Used(), d.Steps(), d.Up())
		}
	}
}

// What a copy is asked for does nothing to the disk that it was copied from.
func TestCopyDoesNothing(t *testing.T) {
	d := diskOf(t, safe("a", 1, 2), has{"b", []byte{3, 4}, 1})
	steps := d.Steps()
	c := copied(d)
	c.Append("a", []byte{1})
	c.Sync("b")
	c.Rename("a", "c")
	c.Remove("a")
	c.Fuse(0)
	c.Crash(nil)
	c.Flip("a", 0)
	c.Resize(0)
	wantFiles(t, "copied", d, safe("a", 1, 2), has{"b", []byte{3, 4}, 1})
	wantSteps(t, d, steps)
	wantErr(t, "Append", d.Append("c", []byte{1}), api.OK)
}

func TestNames(t *testing.T) {
	names := []string{"-", ".", "/", "0", "9", "a", "a-", "a.", "a/", "a/b", "a/bc", "a0", "aa", "ab", "b", "pack/000001", "pack/000010", "pack/000002", "pack0", "pack", "z", named(60)}
	d := newDisk(t, 0)
	if l := d.Names(""); len(l) > 0 {
		t.Error(l)
	}
	for i := range names {
		wantErr(t, "Append", d.Append(names[i*7%len(names)], nil), api.OK)
	}
	slices.Sort(names)
	cases := map[string][]string{
		"":                names,
		"a":               {"a", "a-", "a.", "a/", "a/b", "a/bc", "a0", "aa", "ab", named(60)},
		"a/":              {"a/", "a/b", "a/bc"},
		"a/b":             {"a/b", "a/bc"},
		"a/bc":            {"a/bc"},
		"a/bcd":           nil,
		"pack":            {"pack", "pack/000001", "pack/000002", "pack/000010", "pack0"},
		"pack/":           {"pack/000001", "pack/000002", "pack/000010"},
		"pack/00000":      {"pack/000001", "pack/000002"},
		"ack":             nil,
		"z":               {"z"},
		"zz":              nil,
		"A":               nil,
		"\x00":            nil,
		"\xff":            nil,
		named(60):         {named(60)},
		named(60) + "a":   nil,
		"-":               {"-"},
		"/":               {"/"},
		".":               {"."},
		"b":               {"b"},
		"c":               nil,
		"a/\x00":          nil,
		"0":               {"0"},
		"pack/0000010":    nil,
		"pack/000001\x00": nil,
	}
	slices.Sort(cases["a"])
	for prefix, want := range cases {
		if got := d.Names(prefix); !slices.Equal(got, want) {
			t.Errorf("Names(%q): %q; want %q", prefix, got, want)
		}
	}
}

// What is told asks for no disk that is up, but Read does.
func TestToldOfOneThatIsOut(t *testing.T) {
	d := diskOf(t, safe("a", 1, 2), has{"b", []byte{3, 4, 5}, 2})
	d.Fuse(0)
	wantErr(t, "Sync", d.Sync("b"), api.ErrBroken)
	for _, name := range []string{"a", "b", "x", "", "A"} {
		wantNoRead(t, d, name, api.ErrBroken)
	}
	if l := d.Names(""); !slices.Equal(l, []string{"a", "b"}) {
		t.Error(l)
	}
	if d.Loose("a") != 0 || d.Loose("b") != 2 || d.Loose("x") != 0 || d.Used() != 5 || d.Up() {
		t.Error(d.Loose("a"), d.Loose("b"), d.Loose("x"), d.Used(), d.Up())
	}
	wantSteps(t, d, 5)
}

// Nothing that is told, and nothing but a step, is a step.
func TestWhatIsNoStep(t *testing.T) {
	d := diskOf(t, safe("a", 1, 2), has{"b", []byte{3, 4, 5}, 2})
	wantErr(t, "Fuse", d.Fuse(2), api.OK)
	for range 5 {
		d.Read("a")
		d.Read("x")
		d.Names("")
		d.Loose("b")
		d.Used()
		d.Steps()
		d.Up()
		d.Flip("b", 0)
		d.Flip("x", 0)
		d.Resize(100)
		d.Resize(-1)
	}
	wantSteps(t, d, 5)
	wantErr(t, "Sync", d.Sync("a"), api.OK)
	wantErr(t, "Sync", d.Sync("a"), api.OK)
	wantErr(t, "Sync", d.Sync("a"), api.ErrBroken)
	wantSteps(t, d, 7)
	wantErr(t, "Crash", d.Crash(nil), api.OK)
	wantSteps(t, d, 7)
}
