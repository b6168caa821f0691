package disk_test

import (
	"bytes"
	"math"
	"reflect"
	"slices"
	"strings"
	"testing"

	"satchel/api"
	"satchel/disk"
)

// maxRoom is the greatest room that a disk may have.
const maxRoom = 1 << 24

// notRooms are numbers that are no room of a disk, those among them that would be one if they were cut short.
var notRooms = []int{math.MinInt, -1 << 32, -1 << 31, -maxRoom, -2, -1, maxRoom + 1, maxRoom + 2, 1 << 25, 1<<31 - 1, 1 << 31, 1 << 32, 1<<32 + 10, math.MaxInt}

// tooMuch is more than any disk has room for.
var tooMuch = make([]byte, maxRoom+1)

// named tells a name of so many bytes.
func named(size int) string { return strings.Repeat("ab/c-9.0", 8)[:size] }

// newDisk tells a disk of a room.
func newDisk(t *testing.T, room int) *disk.Disk {
	t.Helper()
	d, err := disk.New(room)
	if err != api.OK || d == nil {
		t.Fatalf("New(%d): %v, %v", room, d, err)
	}
	return d
}

// copied tells a copy of a disk by value.
func copied(d *disk.Disk) *disk.Disk {
	c := &disk.Disk{}
	reflect.ValueOf(c).Elem().Set(reflect.ValueOf(d).Elem())
	return c
}

// wantErr holds an error against the one that it should be.
func wantErr(t *testing.T, what string, got, want api.Errno) {
	t.Helper()
	if got != want {
		t.Errorf("%s: %v; want %v", what, got, want)
	}
}

// has is what there is of a file: its bytes, and how many of them, from the back on, are under way.
type has struct {
	name  string
	b     []byte
	loose int
}

// safe tells what is there of a file all of which is safe.
func safe(name string, b ...byte) has { return has{name, b, 0} }

// wantFiles holds all that a disk that is up tells of its files against what it should.
func wantFiles(t *testing.T, what string, d *disk.Disk, want ...has) {
	t.Helper()
	var names []string
	used := 0
	for _, f := range want {
		names = append(names, f.name)
		used += len(f.b)
		if b, err := d.Read(f.name); !bytes.Equal(b, f.b) || err != api.OK {
			t.Errorf("%s: %s has %.40x, %v; want %.40x", what, f.name, b, err, f.b)
		}
		if n := d.Loose(f.name); n != f.loose {
			t.Errorf("%s: of %s %d bytes are under way; want %d", what, f.name, n, f.loose)
		}
	}
	if got := d.Names(""); !slices.Equal(got, names) {
		t.Errorf("%s: there are %v; want %v", what, got, names)
	}
	if got := d.Used(); got != used {
		t.Errorf("%s: all have %d bytes; want %d", what, got, used)
	}
	if !d.Up() {
		t.Errorf("%s: it is out", what)
	}
}

// wantNoRead says that nothing is told of a file.
func wantNoRead(t *testing.T, d *disk.Disk, name string, want api.Errno) {
	t.Helper()
	if b, err := d.Read(name); len(b) > 0 || err != want {
		t.Errorf("Read(%q): %.40x, %v; want %v", name, b, err, want)
	}
}

// wantSteps says how many steps were done.
func wantSteps(t *testing.T, d *disk.Disk, want int) {
	t.Helper()
	if n := d.Steps(); n != want {
		t.Errorf("%d steps were done; want %d", n, want)
	}
}

// laid lays bytes into a file, of which the last ones stay under way.
func laid(t *testing.T, d *disk.Disk, f has) {
	t.Helper()
	n := len(f.b) - f.loose
	wantErr(t, "Append", d.Append(f.name, f.b[:n]), api.OK)
	wantErr(t, "Sync", d.Sync(f.name), api.OK)
	if f.loose > 0 {
		wantErr(t, "Append", d.Append(f.name, f.b[n:]), api.OK)
	}
}

// diskOf tells a disk of the greatest room with these files.
func diskOf(t *testing.T, l ...has) *disk.Disk {
	t.Helper()
	d := newDisk(t, maxRoom)
	for _, f := range l {
		laid(t, d, f)
	}
	return d
}

// step is a step, and how it is told.
type step struct {
	what string
	do   func(*disk.Disk) api.Errno
}

// steps are one step of each kind, which a disk that has a, all of which is safe, does.
func steps() []step {
	return []step{
		{"Append", func(d *disk.Disk) api.Errno { return d.Append("a", []byte{7}) }},
		{"Append of a new file", func(d *disk.Disk) api.Errno { return d.Append("n", []byte{7}) }},
		{"Append of no bytes", func(d *disk.Disk) api.Errno { return d.Append("n", nil) }},
		{"Sync", func(d *disk.Disk) api.Errno { return d.Sync("a") }},
		{"Rename", func(d *disk.Disk) api.Errno { return d.Rename("a", "c") }},
		{"Rename onto itself", func(d *disk.Disk) api.Errno { return d.Rename("a", "a") }},
		{"Remove", func(d *disk.Disk) api.Errno { return d.Remove("a") }},
	}
}

// refusals are what a disk that has a and b, of which b has bytes under way, refuses, and with which error.
func refusals() map[string]func(*disk.Disk) (got, want api.Errno) {
	return map[string]func(*disk.Disk) (got, want api.Errno){
		"Append to no name":     func(d *disk.Disk) (got, want api.Errno) { return d.Append("", []byte{1}), api.ErrArg },
		"Append of too much":    func(d *disk.Disk) (got, want api.Errno) { return d.Append("a", tooMuch), api.ErrFull },
		"Sync of none":          func(d *disk.Disk) (got, want api.Errno) { return d.Sync("x"), api.ErrMissing },
		"Rename to no name":     func(d *disk.Disk) (got, want api.Errno) { return d.Rename("a", "A"), api.ErrArg },
		"Rename of none":        func(d *disk.Disk) (got, want api.Errno) { return d.Rename("x", "y"), api.ErrMissing },
		"Rename of loose bytes": func(d *disk.Disk) (got, want api.Errno) { return d.Rename("b", "c"), api.ErrState },
		"Remove of none":        func(d *disk.Disk) (got, want api.Errno) { return d.Remove("x"), api.ErrMissing },
	}
}

// spoil writes over bytes and over all their spare room.
func spoil(b []byte) {
	all := b[:cap(b)]
	for i := range all {
		all[i] ^= 85
	}
}

// roomy tells the same bytes with spare room behind them, which holds others.
func roomy(b []byte) []byte {
	all := append(bytes.Clone(b), 90, 91, 92, 93, 94, 95, 96, 97)
	return all[:len(b)]
}
