package disk_test

import (
	"bytes"
	"fmt"
	"runtime"
	"slices"
	"strings"
	"testing"
	"unsafe"
	"weak"

	"satchel/api"
	"satchel/disk"
)

// lengths are how many bytes are laid, about those at which memory is laid out in another way.
var lengths = []int{0, 1, 2, 7, 8, 9, 15, 16, 17, 31, 32, 33, 100, 1000, 1024, 1400, 40000}

// What was handed in may be written over at once, and is not written to.
func TestAppendKeepsNothingOfWhatIsHandedIn(t *testing.T) {
	for _, size := range lengths {
		d := newDisk(t, maxRoom)
		for i := range 4 {
			b := roomy(of(size))
			was := bytes.Clone(b[:cap(b)])
			wantErr(t, "Append", d.Append("a", b), api.OK)
			wantErr(t, "Append", d.Append("b", b), api.OK)
			if i == 1 {
				wantErr(t, "Sync", d.Sync("b"), api.OK)
			}
			if i == 2 {
				wantErr(t, "Crash", d.Crash([]int{size, 0}), api.OK)
			}
			d.Flip("a", 0)
			d.Flip("b", 0)
			if !bytes.Equal(b[:cap(b)], was) {
				t.Errorf("%d bytes: what was handed in is changed", size)
			}
			d.Flip("a", 0)
			d.Flip("b", 0)
			spoil(b)
		}
		if a, err := d.Read("a"); err != api.OK || !bytes.Equal(a, bytes.Repeat(of(size), len(a)/max(1, size))) {
			t.Errorf("%d bytes: %.40x, %v", size, a, err)
		}
	}
}

// All may be handed in in one and the same memory, of one file and of several.
func TestAppendOfOneMemory(t *testing.T) {
	d := newDisk(t, maxRoom)
	b := make([]byte, 3, 9)
	var want []byte
	for i := range 200 {
		copy(b, []byte{byte(i), 7, byte(i >> 4)})
		want = append(want, b...)
		wantErr(t, "Append", d.Append("a", b), api.OK)
		wantErr(t, "Append", d.Append(fmt.Sprintf("b%03d", i), b), api.OK)
	}
	clear(b[:cap(b)])
	if a, err := d.Read("a"); err != api.OK || !bytes.Equal(a, want) {
		t.Errorf("%.40x, %v", a, err)
	}
	for i := range 200 {
		if b, err := d.Read(fmt.Sprintf("b%03d", i)); err != api.OK || !bytes.Equal(b, []byte{byte(i), 7, byte(i >> 4)}) {
			t.Errorf("%d: %x, %v", i, b, err)
		}
	}
}

// What is told is nobody else's: it may be written over, and it may grow; there is nothing in its spare room.
func TestReadIsNewMemory(t *testing.T) {
	for _, size := range lengths {
		for _, loose := range []int{0, size / 2, size} {
			d := newDisk(t, maxRoom)
			laid(t, d, has{"a", roomy(of(size)), loose})
			for range 3 {
				b, _ := d.Read("a")
				c, _ := d.Read("a")
				if bytes.Trim(b[:cap(b)][len(b):], "\x00") != nil {
					t.Errorf("%d bytes: %x in the spare room", size, b[:cap(b)][len(b):])
				}
				spoil(b)
				_ = append(b, of(50)...)
				if !bytes.Equal(c, of(size)) {
					t.Errorf("%d bytes: what is told is told twice", size)
				}
				wantFiles(t, "told", d, has{"a", of(size), loose})
			}
		}
	}
}

// What was told stays as it was, whatever becomes of the file.
func TestWhatWasReadStays(t *testing.T) {
	for _, size := range lengths[1:] {
		for _, loose := range []int{0, 1, size} {
			d := newDisk(t, maxRoom)
			laid(t, d, has{"a", of(size), loose})
			b, _ := d.Read("a")
			whole := bytes.Clone(b[:cap(b)])
			wantErr(t, "Flip", d.Flip("a", 0), api.OK)
			wantErr(t, "Flip", d.Flip("a", 8*size-1), api.OK)
			wantErr(t, "Append", d.Append("a", of(9)), api.OK)
			wantErr(t, "Sync", d.Sync("a"), api.OK)
			wantErr(t, "Append", d.Append("a", of(9)), api.OK)
			wantErr(t, "Crash", d.Crash(nil), api.OK)
			wantErr(t, "Append", d.Append("a", of(9)), api.OK)
			wantErr(t, "Remove", d.Remove("a"), api.OK)
			if !bytes.Equal(b[:cap(b)], whole) || !bytes.Equal(b, of(size)) {
				t.Errorf("%d bytes, %d under way: what was read is changed", size, loose)
			}
		}
	}
}

// What is gone behind a crash does not come again: other bytes lie in its place.
func TestWhatIsGoneIsGone(t *testing.T) {
	d := diskOf(t, has{"a", of(100), 60})
	b, _ := d.Read("a")
	wantErr(t, "Crash", d.Crash([]int{10}), api.OK)
	wantErr(t, "Append", d.Append("a", []byte{1, 2}), api.OK)
	wantFiles(t, "more", d, has{"a", append(of(50), 1, 2), 2})
	wantErr(t, "Crash", d.Crash([]int{60}), api.OK) // 0 modulo 3
	wantFiles(t, "again", d, safe("a", of(50)...))
	if !bytes.Equal(b, of(100)) {
		t.Error("what was read is changed")
	}
}

func TestNamesIsNewMemory(t *testing.T) {
	for size := range 40 {
		d := newDisk(t, 10)
		var want []string
		for i := range size {
			name := fmt.Sprintf("%c/%02d", 'a'+i%2, i)
			want = append(want, name)
			wantErr(t, "Append", d.Append(name, nil), api.OK)
		}
		slices.Sort(want)
		for _, prefix := range []string{"", "a", "b/", "a/02", "c"} {
			of := slices.DeleteFunc(slices.Clone(want), func(s string) bool { return !strings.HasPrefix(s, prefix) })
			for range 3 {
				l := d.Names(prefix)
				if !slices.Equal(l, of) {
					t.Errorf("Names(%q): %q; want %q", prefix, l, of)
				}
				for _, s := range l[len(l):cap(l)] {
					if s != "" {
						t.Errorf("Names(%q): %q in the spare room", prefix, s)
					}
				}
				all := l[:cap(l)]
				for i := range all {
					all[i] = "spoiled"
				}
			}
		}
	}
}

// The numbers that a crash is handed are looked at, not changed; those in their spare room are not looked at.
func TestCrashLooksAtWhatIsHandedInAlone(t *testing.T) {
	d := diskOf(t, has{"a", of(5), 3}, has{"b", of(5), 3}, has{"c", of(5), 3})
	all := []int{-9, 7, 2, 3, 1}
	wantErr(t, "Crash", d.Crash(all[:2]), api.OK)
	if !slices.Equal(all, []int{-9, 7, 2, 3, 1}) {
		t.Error(all)
	}
	clear(all)
	wantFiles(t, "crashed", d, safe("a", of(5)...), safe("b", of(5)...), safe("c", of(2)...))
}

// about tells a disk with files whose names are pieces of greater texts, and just where these lie.
func about(t *testing.T) (*disk.Disk, []weak.Pointer[byte]) {
	t.Helper()
	d := newDisk(t, 10)
	var l []weak.Pointer[byte]
	piece := func(i int) string {
		s := strings.Repeat(fmt.Sprintf("f%03d", i), 1000)
		l = append(l, weak.Make(unsafe.StringData(s)))
		return s[:4]
	}
	for i := range 10 {
		wantErr(t, "Append", d.Append(piece(i), nil), api.OK)
		wantErr(t, "Append", d.Append(piece(i), nil), api.OK)
		wantErr(t, "Sync", d.Sync(piece(i)), api.OK)
		if i%2 == 1 {
			wantErr(t, "Rename", d.Rename(piece(i), piece(i+10)), api.OK)
		}
		d.Read(piece(i))
		d.Names(piece(i))
	}
	return d, l
}

// A name that was handed in is not kept, just what it says.
func TestNamesAreNotKept(t *testing.T) {
	d, l := about(t)
	runtime.GC()
	for _, p := range l {
		if p.Value() != nil {
			t.Error("a text of which a name was a piece is kept")
			break
		}
	}
	if len(l) != 60 || len(d.Names("")) != 10 {
		t.Error(len(l), d.Names(""))
	}
}
