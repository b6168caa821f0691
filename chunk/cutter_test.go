package chunk_test

import (
	"bytes"
	"slices"
	"testing"

	"satchel/api"
	"satchel/chunk"
)

// wantPush pushes bytes, and says which chunks are told, and how many bytes are left.
func wantPush(t *testing.T, what string, c *chunk.Cutter, b []byte, want [][]byte, left int) {
	t.Helper()
	got, err := c.Push(b)
	if err != api.OK || !slices.EqualFunc(got, want, bytes.Equal) {
		t.Errorf("%s: Push of %d bytes: chunks of %v, %v; want %v", what, len(b), sizesOf(got), err, sizesOf(want))
	}
	wantLeft(t, what, c, left)
}

// wantLeft says how many bytes are left, and asks twice, for nothing changes by it.
func wantLeft(t *testing.T, what string, c *chunk.Cutter, left int) {
	t.Helper()
	for range 2 {
		if got := c.Left(); got != left {
			t.Errorf("%s: Left: %d; want %d", what, got, left)
		}
	}
}

// wantEnd ends a cutter, says what the last chunk is, and that it is over then.
func wantEnd(t *testing.T, what string, c *chunk.Cutter, want []byte) {
	t.Helper()
	if got, err := c.End(); err != api.OK || !bytes.Equal(got, want) {
		t.Errorf("%s: End: %v, %v; want %v", what, got, err, want)
	}
	wantLeft(t, what, c, 0)
	wantRefused(t, what, c, api.ErrState)
}

// wantRefused says that a cutter takes nothing, and tells nothing.
func wantRefused(t *testing.T, what string, c *chunk.Cutter, want api.Errno) {
	t.Helper()
	for _, b := range [][]byte{nil, {3}, someBytes(5000)} {
		if l, err := c.Push(b); err != want || len(l) != 0 {
			t.Errorf("%s: Push of %d bytes: %v, %v; want %v", what, len(b), sizesOf(l), err, want)
		}
		if last, err := c.End(); err != want || len(last) != 0 {
			t.Errorf("%s: End: %v, %v; want %v", what, last, err, want)
		}
		wantLeft(t, what, c, 0)
	}
}

// ended tells the chunks of bytes that ended but for there being no more of them, and the rest.
func ended(b []byte) ([][]byte, []byte) {
	l := told(b)
	if n := len(l) - 1; n >= 0 && !endsByItself(l[n]) {
		return l[:n], l[n]
	}
	return l, nil
}

// wantPieces pushes bytes in pieces, of each of which size tells how many bytes it has.
func wantPieces(t *testing.T, what string, b []byte, size func(i int) int) {
	t.Helper()
	all, rest := ended(b)
	c := chunk.New()
	var at, cut, n int // how many bytes came, how many of them were told in chunks, how many chunks these are
	for i := 0; at < len(b); i++ {
		piece := b[at:min(at+size(i), len(b))]
		at += len(piece)
		first := n
		for n < len(all) && cut+len(all[n]) <= at {
			cut += len(all[n])
			n++
		}
		wantPush(t, what, c, piece, all[first:n], at-cut)
	}
	wantEnd(t, what, c, rest)
}

// wholes are bytes that are cut in many ways, and in none.
func wholes(t *testing.T) [][]byte {
	return [][]byte{
		nil, {5}, someBytes(63), someBytes(64), someBytes(65), someBytes(4000),
		lowAt(t, 64, 64), lowAt(t, 65, 64), lowAt(t, 65, 63), lowAt(t, 128, 64, 128), lowAt(t, 129, 64, 127),
		lowAt(t, 1023), lowAt(t, 1024), lowAt(t, 1025), lowAt(t, 2048), lowAt(t, 2049), lowAt(t, 1088, 1088), lowAt(t, 2000, 64, 300, 1087),
		bytes.Repeat(lowAt(t, 64, 64), 9),
	}
}

func TestExamplesOfCutter(t *testing.T) {
	c := chunk.New()
	wantPush(t, "example", c, []byte{1, 2}, nil, 2)
	wantEnd(t, "example", c, []byte{1, 2})
}

func TestNewHasNoBytes(t *testing.T) {
	wantLeft(t, "new", chunk.New(), 0)
	wantEnd(t, "new", chunk.New(), nil)
	c := chunk.New()
	wantPush(t, "none came", c, nil, nil, 0)
	wantPush(t, "none came", c, []byte{}, nil, 0)
	wantEnd(t, "none came", c, nil)
}

func TestPiecesOfEachSize(t *testing.T) {
	for _, b := range wholes(t) {
		for _, size := range []int{1, 2, 3, 15, 16, 17, 63, 64, 65, 100, 1023, 1024, 1025, 3000, 9000} {
			wantPieces(t, "pieces all alike", b, func(int) int { return size })
		}
	}
}

func TestUnevenPiecesAndNone(t *testing.T) {
	for _, b := range wholes(t) {
		for start := range 20 {
			wantPieces(t, "uneven pieces", b, func(i int) int { return (start + i*i*31) % 173 })
			wantPieces(t, "bytes one by one, with none between", b, func(i int) int { return (start + i) % 2 })
		}
	}
}

func TestAllCutsInTwo(t *testing.T) {
	for _, b := range [][]byte{lowAt(t, 200, 64, 128), lowAt(t, 200, 63), someBytes(1100), lowAt(t, 1025)} {
		for first := range len(b) + 1 {
			wantPieces(t, "in two", b, func(i int) int { return max(1, first+i*len(b)) })
		}
	}
}

// A chunk that ends by its own bytes is told at once; one that might go on is not.
func TestWhenAChunkIsTold(t *testing.T) {
	b := lowAt(t, 64, 64)
	c := chunk.New()
	wantPush(t, "by its sum", c, b[:63], nil, 63)
	wantPush(t, "by its sum", c, b[63:], [][]byte{b}, 0)
	wantPush(t, "by its sum", c, nil, nil, 0)
	wantEnd(t, "by its sum", c, nil)

	b = lowAt(t, 1024)
	c = chunk.New()
	wantPush(t, "by its size", c, b[:1023], nil, 1023)
	wantPush(t, "by its size", c, nil, nil, 1023)
	wantPush(t, "by its size", c, b[1023:], [][]byte{b}, 0)
	wantEnd(t, "by its size", c, nil)

	b = lowAt(t, 64)
	c = chunk.New()
	wantPush(t, "not by itself", c, b, nil, 64)
	wantEnd(t, "not by itself", c, b)
}

// What a cutter tells of pieces is what Split tells of all.
func TestCutterTellsWhatSplitTells(t *testing.T) {
	b := someBytes(200000)
	want := chunk.Split(b)
	for _, size := range []int{1, 7, 64, 1000, 4096, 200000} {
		c := chunk.New()
		var l [][]byte
		for piece := range slices.Chunk(b, size) {
			more, err := c.Push(piece)
			if err != api.OK {
				t.Fatal(err)
			}
			l = append(l, more...)
		}
		last, err := c.End()
		if len(last) > 0 {
			l = append(l, last)
		}
		if err != api.OK || !slices.EqualFunc(l, want, bytes.Equal) {
			t.Errorf("pieces of %d: %v; %d chunks; want %d", size, err, len(l), len(want))
		}
	}
}

func TestCuttersThatAreNone(t *testing.T) {
	wantRefused(t, "nil", nil, api.ErrNil)
	wantRefused(t, "not made", new(chunk.Cutter), api.ErrNil)
	wantRefused(t, "a literal", &chunk.Cutter{}, api.ErrNil)
	c := chunk.New()
	c.Push([]byte{1, 2})
	other := *c
	wantRefused(t, "a copy", &other, api.ErrNil)
	wantPush(t, "what was copied", c, []byte{3}, nil, 3)
	wantEnd(t, "what was copied", c, []byte{1, 2, 3})
	over := *c
	wantRefused(t, "a copy of one that is over", &over, api.ErrNil)
}

func TestCuttersAreTheirOwn(t *testing.T) {
	a, b := lowAt(t, 300, 64, 200), lowAt(t, 300, 100, 164)
	x, y := chunk.New(), chunk.New()
	wantPush(t, "the one", x, a[:60], nil, 60)
	wantPush(t, "the other", y, b[:90], nil, 90)
	wantPush(t, "the one", x, a[60:190], [][]byte{a[:64]}, 126)
	wantPush(t, "the other", y, b[90:], [][]byte{b[:100], b[100:164]}, 136)
	chunk.Split(someBytes(500))
	wantEnd(t, "the other", y, b[164:])
	wantPush(t, "the one", x, a[190:], [][]byte{a[64:200]}, 100)
	wantEnd(t, "the one", x, a[200:])
	wantEnd(t, "a new one", chunk.New(), nil)
}

func TestPushKeepsNothing(t *testing.T) {
	b := lowAt(t, 300, 64, 200)
	c := chunk.New()
	for _, x := range []struct {
		from, to int
		want     [][]byte
		left     int
	}{{0, 50, nil, 50}, {50, 150, [][]byte{b[:64]}, 86}, {150, 250, [][]byte{b[64:200]}, 50}} {
		given := roomy(b[x.from:x.to])
		was := slices.Clone(given[:len(given)+200])
		wantPush(t, "pieces", c, given, x.want, x.left)
		if !bytes.Equal(given[:len(given)+200], was) {
			t.Error("a piece, or what is behind it, was changed")
		}
		for i := range was {
			given[:len(was)][i] ^= 255
		}
	}
	wantEnd(t, "pieces that were changed behind the calls", c, b[200:250])
}

func TestWhatACutterTellsIsNewMemory(t *testing.T) {
	b := slices.Concat(lowAt(t, 300, 64, 200), make([]byte, 800), someBytes(3000))
	all, rest := ended(b)
	given := slices.Clone(b)
	c := chunk.New()
	var l [][]byte
	for piece := range slices.Chunk(given, 70) {
		more, _ := c.Push(piece)
		for _, x := range more {
			l = append(l, slices.Clone(x))
		}
		wantOwn(t, "Push", more)
		clear(more[:cap(more)])
	}
	last, err := c.End()
	if err != api.OK || !bytes.Equal(last, rest) || !slices.EqualFunc(l, all, bytes.Equal) {
		t.Errorf("answers that were changed: chunks of %v, %v; want %v", sizesOf(append(l, last)), err, sizesOf(told(b)))
	}
	if !bytes.Equal(given, b) {
		t.Error("what was handed in was changed with an answer")
	}
	wantOwn(t, "End", [][]byte{last, given})
}
