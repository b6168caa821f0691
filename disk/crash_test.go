package disk_test

import (
	"fmt"
	"math"
	"testing"

	"satchel/api"
)

// of tells so many bytes.
func of(size int) []byte {
	b := make([]byte, size)
	for i := range b {
		b[i] = byte(i*37 + 11)
	}
	return b
}

// stays tells how many of those under way stay, in another way than the program: by steps of one more than there are.
func stays(keep, loose int) int {
	for keep > loose {
		keep -= loose + 1
	}
	for keep < 0 {
		keep += loose + 1
	}
	return keep
}

func TestCrashKeeps(t *testing.T) {
	for loose := range 6 {
		for keep := -20; keep <= 20; keep++ {
			d := diskOf(t, has{"a", of(3 + loose), loose})
			wantErr(t, "Crash", d.Crash([]int{keep}), api.OK)
			wantFiles(t, fmt.Sprintf("%d of %d", keep, loose), d, safe("a", of(3+stays(keep, loose))...))
		}
	}
}

// Numbers of which the modulo is told by hand: 2^63 - 1 is 1 modulo 3, 7 modulo 10; -2^63 is 1 and 2.
func TestCrashKeepsAtTheEdges(t *testing.T) {
	for _, c := range []struct{ keep, loose, stay int }{
		{math.MaxInt, 2, 1}, {math.MinInt, 2, 1}, {math.MaxInt, 9, 7}, {math.MinInt, 9, 2},
		{math.MaxInt, 0, 0}, {math.MinInt, 0, 0}, {math.MaxInt, 1, 1}, {math.MinInt, 1, 0},
		{1 << 32, 2, 1}, {1 << 32, 9, 6}, {-1 << 32, 9, 4}, {-1, 9, 9}, {-10, 9, 0}, {-11, 9, 9}, {9, 9, 9}, {10, 9, 0}, {11, 9, 1},
	} {
		d := diskOf(t, has{"a", of(1 + c.loose), c.loose})
		wantErr(t, "Crash", d.Crash([]int{c.keep}), api.OK)
		wantFiles(t, fmt.Sprintf("%d of %d", c.keep, c.loose), d, safe("a", of(1+c.stay)...))
	}
}

// The i-th number is the i-th file's by their rising names, whatever is under way of it, and in whatever order they came to be.
func TestCrashKeepsByNames(t *testing.T) {
	for _, c := range []struct {
		keeps   []int
		a, b, c int
	}{
		{nil, 0, 0, 0},
		{[]int{}, 0, 0, 0},
		{[]int{1}, 1, 0, 0},
		{[]int{0, 0, 2}, 0, 2, 0},
		{[]int{1, 0, 0, 2}, 1, 0, 2},
		{[]int{3, 9, 1, 2}, 3, 1, 2},
		{[]int{3, 1, 2, 2, 5, 6, 7}, 3, 2, 2},
		{[]int{-1, -1, -1, -1, -1, -1}, 3, 3, 3},
		{[]int{4, 4, 4, 4}, 0, 0, 0},
		{[]int{5, 5, 5, 5}, 1, 1, 1},
	} {
		d := diskOf(t, has{"c", of(5), 3}, has{"ab", of(4), 3}, safe("aa", of(2)...), has{"a", of(3), 3})
		wantErr(t, "Crash", d.Crash(c.keeps), api.OK)
		wantFiles(t, fmt.Sprint(c.keeps), d, safe("a", of(c.a)...), safe("aa", of(2)...), safe("ab", of(1+c.b)...), safe("c", of(2+c.c)...))
	}
}

// With keeps that rise by one a file, each of many keeps its own.
func TestCrashOfMany(t *testing.T) {
	d := newDisk(t, maxRoom)
	var keeps []int
	var want []has
	for i := range 1000 {
		k := i * 389 % 1000
		name := fmt.Sprintf("f%03d", k)
		wantErr(t, "Append", d.Append(name, of(k)), api.OK)
		keeps = append(keeps, i/2)
		want = append(want, safe(fmt.Sprintf("f%03d", i), of(i/2)...))
	}
	wantErr(t, "Crash", d.Crash(keeps), api.OK)
	wantFiles(t, "many", d, want...)
	wantSteps(t, d, 1000)
}

// A crash is as well one of a disk that is out; behind it, it is up.
func TestCrashOfOneThatIsOut(t *testing.T) {
	d := diskOf(t, has{"a", []byte{1, 2, 3}, 2}, has{"b", []byte{4, 5}, 1})
	d.Fuse(0)
	wantErr(t, "Append", d.Append("a", []byte{9}), api.ErrBroken)
	wantErr(t, "Crash", d.Crash([]int{1, 1}), api.OK)
	wantFiles(t, "up again", d, safe("a", 1, 2), safe("b", 4, 5))
	wantErr(t, "Append", d.Append("a", []byte{9}), api.OK)
	wantFiles(t, "more", d, has{"a", []byte{1, 2, 9}, 1}, safe("b", 4, 5))
}

// What stayed behind one crash stays behind the next one.
func TestCrashTwice(t *testing.T) {
	d := diskOf(t, has{"a", []byte{1, 2, 3}, 2}, has{"b", []byte{4, 5}, 2})
	wantErr(t, "Crash", d.Crash([]int{1, 1}), api.OK)
	for _, keeps := range [][]int{nil, {0, 0}, {1, 1}, {-1, -1}} {
		wantErr(t, "Crash again", d.Crash(keeps), api.OK)
		wantFiles(t, "twice", d, safe("a", 1, 2), safe("b", 4))
	}
	wantErr(t, "Append", d.Append("b", []byte{7, 8}), api.OK)
	wantErr(t, "Crash", d.Crash([]int{1, 1}), api.OK)
	wantErr(t, "Crash", d.Crash([]int{1, 0}), api.OK)
	wantFiles(t, "and more", d, safe("a", 1, 2), safe("b", 4, 7))
}

func TestCrashOfNoFiles(t *testing.T) {
	d := newDisk(t, 5)
	wantErr(t, "Crash", d.Crash([]int{1, 2, 3}), api.OK)
	wantErr(t, "Crash", d.Crash(nil), api.OK)
	wantFiles(t, "none", d)
	wantSteps(t, d, 0)
}

// What crashed may be renamed: all that stays is safe.
func TestRenameBehindACrash(t *testing.T) {
	d := diskOf(t, has{"a", []byte{1, 2, 3}, 2})
	wantErr(t, "Rename", d.Rename("a", "b"), api.ErrState)
	wantErr(t, "Crash", d.Crash([]int{2}), api.OK)
	wantErr(t, "Rename", d.Rename("a", "b"), api.OK)
	wantFiles(t, "renamed", d, safe("b", 1, 2, 3))
}

// Each bit of what is safe and of what is under way may be turned, and turned back.
func TestFlip(t *testing.T) {
	for loose := range 6 {
		d := diskOf(t, has{"a", of(5), loose}, safe("b", 1))
		for bit := range 40 {
			want := of(5)
			want[bit/8] ^= []byte{1, 2, 4, 8, 16, 32, 64, 128}[bit%8]
			wantErr(t, "Flip", d.Flip("a", bit), api.OK)
			wantFiles(t, "flipped", d, has{"a", want, loose}, safe("b", 1))
			wantErr(t, "Flip", d.Flip("a", bit), api.OK)
			wantFiles(t, "flipped back", d, has{"a", of(5), loose}, safe("b", 1))
		}
		for _, bit := range []int{math.MinInt, -1 << 32, -41, -40, -9, -8, -7, -2, -1, 40, 41, 47, 48, 1 << 31, 1 << 32, 1<<32 + 1, math.MaxInt} {
			wantErr(t, fmt.Sprintf("Flip of the bit %d", bit), d.Flip("a", bit), api.ErrRange)
			wantErr(t, fmt.Sprintf("Flip of the bit %d of none", bit), d.Flip("x", bit), api.ErrMissing)
		}
		wantErr(t, "Flip of the last one", d.Flip("b", 7), api.OK)
		wantErr(t, "Flip of one more", d.Flip("b", 8), api.ErrRange)
		wantFiles(t, "flipped", d, has{"a", of(5), loose}, safe("b", 129))
	}
}

// A bit that was turned is so from then on, whatever is done with the file.
func TestFlipStays(t *testing.T) {
	d := diskOf(t, has{"a", []byte{0, 0, 0}, 2})
	for _, bit := range []int{0, 9, 18} {
		wantErr(t, "Flip", d.Flip("a", bit), api.OK)
	}
	wantFiles(t, "flipped", d, has{"a", []byte{1, 2, 4}, 2})
	wantErr(t, "Append", d.Append("a", []byte{0}), api.OK)
	wantErr(t, "Flip", d.Flip("a", 27), api.OK)
	wantErr(t, "Crash", d.Crash([]int{2}), api.OK)
	wantFiles(t, "crashed", d, safe("a", 1, 2, 4))
	wantErr(t, "Rename", d.Rename("a", "b"), api.OK)
	wantErr(t, "Append", d.Append("b", []byte{0}), api.OK)
	wantErr(t, "Flip", d.Flip("b", 31), api.OK)
	wantErr(t, "Sync", d.Sync("b"), api.OK)
	wantErr(t, "Crash", d.Crash(nil), api.OK)
	wantFiles(t, "synced", d, safe("b", 1, 2, 4, 128))
	wantErr(t, "Flip", d.Flip("a", 0), api.ErrMissing)
}

// A disk that is out has its bits turned, too.
func TestFlipOfOneThatIsOut(t *testing.T) {
	d := diskOf(t, has{"a", []byte{1, 2}, 1})
	d.Fuse(0)
	wantErr(t, "Sync", d.Sync("a"), api.ErrBroken)
	wantErr(t, "Flip", d.Flip("a", 1), api.OK)
	wantErr(t, "Flip", d.Flip("a", 8), api.OK)
	wantErr(t, "Flip", d.Flip("a", 16), api.ErrRange)
	wantErr(t, "Flip", d.Flip("x", 0), api.ErrMissing)
	if d.Up() {
		t.Error("it is up")
	}
	wantErr(t, "Crash", d.Crash([]int{1}), api.OK)
	wantFiles(t, "up again", d, safe("a", 3, 3))
}
