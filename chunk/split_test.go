package chunk_test

import (
	"bytes"
	"slices"
	"testing"

	"satchel/api"
	"satchel/chunk"
)

// wantChunks holds what Cut and Split tell of bytes against the chunks that they should.
func wantChunks(t *testing.T, what string, b []byte, want [][]byte) {
	t.Helper()
	if got := chunk.Cut(b); !slices.Equal(got, sizesOf(want)) {
		t.Errorf("%s: Cut of %d bytes: %v; want %v", what, len(b), got, sizesOf(want))
	}
	if got := chunk.Split(b); !slices.EqualFunc(got, want, bytes.Equal) {
		t.Errorf("%s: Split of %d bytes: chunks of %v; want %v", what, len(b), sizesOf(got), sizesOf(want))
	}
}

// wantSizes says how many bytes each chunk has.
func wantSizes(t *testing.T, what string, b []byte, sizes ...int) {
	t.Helper()
	var want [][]byte
	at := 0
	for _, size := range sizes {
		want = append(want, b[at:at+size])
		at += size
	}
	if at != len(b) {
		t.Fatalf("%s: sizes of %d bytes; there are %d", what, at, len(b))
	}
	wantChunks(t, what, b, want)
}

func TestExamplesOfCut(t *testing.T) {
	wantSizes(t, "none", nil)
	wantSizes(t, "none", []byte{})
	wantSizes(t, "whichever", someBytes(63), 63)
	wantSizes(t, "whichever", make([]byte, 63), 63)
	for _, size := range []int{1, 63, 64, 65, 500, 1023, 1024} {
		wantSizes(t, "no low sum", lowAt(t, size), size)
	}
}

// Where no sum is low the size alone ends chunks.
func TestCutBySize(t *testing.T) {
	wantSizes(t, "one more", lowAt(t, 1025), 1024, 1)
	wantSizes(t, "two whole ones but for a byte", lowAt(t, 2047), 1024, 1023)
	wantSizes(t, "two whole ones", lowAt(t, 2048), 1024, 1024)
	wantSizes(t, "two whole ones and a byte", lowAt(t, 2049), 1024, 1024, 1)
	wantSizes(t, "many", lowAt(t, 10000), 1024, 1024, 1024, 1024, 1024, 1024, 1024, 1024, 1024, 784)
}

func TestCutBySum(t *testing.T) {
	for _, x := range []struct {
		size  int
		low   []int // where the sum of the last sixteen is low
		sizes []int
	}{
		{63, []int{63}, []int{63}},
		{64, []int{63}, []int{64}},
		{64, []int{64}, []int{64}},
		{65, []int{16}, []int{65}},
		{65, []int{62}, []int{65}},
		{65, []int{63}, []int{65}},
		{65, []int{64}, []int{64, 1}},
		{65, []int{65}, []int{65}},
		{66, []int{65}, []int{65, 1}},
		{200, []int{16}, []int{200}},
		{200, []int{63}, []int{200}},
		{200, []int{64}, []int{64, 136}},
		{200, []int{63, 100}, []int{100, 100}},
		{200, []int{64, 128}, []int{64, 64, 72}},
		{200, []int{64, 127}, []int{64, 136}},
		{200, []int{64, 127, 160}, []int{64, 96, 40}},
		{200, []int{64, 129}, []int{64, 65, 71}},
		{2000, []int{1023}, []int{1023, 977}},
		{2000, []int{1024}, []int{1024, 976}},
		{2000, []int{1025}, []int{1024, 976}},
		{2000, []int{1087}, []int{1024, 976}},
		{2000, []int{1088}, []int{1024, 64, 912}},
		{2000, []int{64}, []int{64, 1024, 912}},
		{2000, []int{64, 1087}, []int{64, 1023, 913}},
		{2000, []int{64, 1089}, []int{64, 1024, 912}},
	} {
		wantSizes(t, "low sums", lowAt(t, x.size, x.low...), x.sizes...)
	}
}

// behind tells a hundred bytes that end with a window, and three more, such that no other window than this has a low sum.
func behind(t *testing.T, window []byte) []byte {
	t.Helper()
	for fill := range 256 {
		b := slices.Concat(bytes.Repeat([]byte{byte(fill)}, 84), window, []byte{1, 2, 3})
		if low := lowEnds(b); len(low) == 0 || slices.Equal(low, []int{100}) {
			return b
		}
	}
	t.Fatalf("nothing fits around %v", window)
	return nil
}

// A sum of 2^24 ends no chunk; all below do. (No sum of sixteen bytes is odd.)
func TestWhichSumsEnd(t *testing.T) {
	for _, sum := range []uint32{0, 2, 1<<23 + 2, 1<<24 - 4, 1<<24 - 2} {
		wantSizes(t, "low", behind(t, windowOf(t, sum)), 100, 3)
	}
	for _, sum := range []uint32{1 << 24, 1<<24 + 2, 1 << 25, 1<<31 - 2, 1 << 31, 1<<32 - 2} {
		wantSizes(t, "not low", behind(t, windowOf(t, sum)), 103)
	}
}

func TestCutOfEachSize(t *testing.T) {
	for size := range 1400 {
		b := someBytes(size)
		wantChunks(t, "some bytes", b, told(b))
	}
	for _, size := range edges {
		b := someBytes(size)
		wantChunks(t, "edges", b, told(b))
	}
	b := someBytes(api.MaxFile)
	wantChunks(t, "the greatest file", b, told(b))
}

// All bytes alike, or falling into a step, so that windows come again.
func TestCutOfBytesThatRepeat(t *testing.T) {
	for step := range 256 {
		b := make([]byte, 1300)
		for i := range b {
			b[i] = byte(step*i + step/7)
		}
		wantChunks(t, "steps", b, told(b))
		same := bytes.Repeat([]byte{byte(step)}, 1300)
		wantChunks(t, "all alike", same, told(same))
	}
	// Over and over: a low window ends each 64 bytes.
	b := bytes.Repeat(lowAt(t, 64, 64), 20)
	if got := chunk.Cut(b); !slices.Equal(got, slices.Repeat([]int{64}, 20)) {
		t.Error(got)
	}
}

func TestChunksComeToTheBytes(t *testing.T) {
	for _, size := range append(slices.Clone(edges), 100000) {
		b := someBytes(size)
		l := chunk.Split(b)
		if !bytes.Equal(slices.Concat(l...), b) {
			t.Errorf("%d bytes: not all, or others", size)
		}
		for i, x := range l {
			last := i == len(l)-1
			if len(x) > 1024 || len(x) < 64 && !last || len(x) == 0 {
				t.Errorf("%d bytes: chunk %d of %d has %d", size, i, len(l), len(x))
			}
		}
		if got := chunk.Cut(b); !slices.Equal(got, sizesOf(l)) {
			t.Errorf("%d bytes: Cut %v, Split %v", size, got, sizesOf(l))
		}
	}
}

func TestBehindACutAsIfAlone(t *testing.T) {
	b := slices.Concat(someBytes(9000), lowAt(t, 2000, 64, 1500), make([]byte, 3000))
	l := chunk.Split(b)
	if len(l) < 10 {
		t.Fatal(len(l))
	}
	at := 0
	for i := range l {
		wantChunks(t, "behind a cut", b[at:], l[i:])
		at += len(l[i])
	}
	whole := slices.Concat(l[:5]...)
	for _, rest := range [][]byte{nil, {7}, someBytes(63), someBytes(64), someBytes(3000), make([]byte, 1025)} {
		wantChunks(t, "other bytes behind a cut", slices.Concat(whole, rest), slices.Concat(l[:5], chunk.Split(rest)))
	}
}

// Bytes that begin with others have their chunks, but the last one where that does not end by itself.
func TestBytesThatBeginWithOthers(t *testing.T) {
	b := someBytes(2500)
	all := chunk.Split(b)
	for n := range b {
		l := chunk.Split(b[:n])
		if len(l) > 0 && !endsByItself(l[len(l)-1]) {
			l = l[:len(l)-1]
		}
		if len(l) > len(all) || !slices.EqualFunc(l, all[:len(l)], bytes.Equal) {
			t.Fatalf("the first %d: chunks of %v; all: %v", n, sizesOf(l), sizesOf(all))
		}
	}
}

func TestCutAndSplitLookAtTheirBytesAlone(t *testing.T) {
	for _, size := range edges {
		b, was := roomy(someBytes(size)), roomy(someBytes(size))
		wantChunks(t, "with spare room", b, told(was))
		if !bytes.Equal(b[:size+200], was[:size+200]) {
			t.Errorf("%d bytes, or those behind them, were changed", size)
		}
	}
}

// wantOwn says that each of some chunks, with its spare room, is memory of its own.
func wantOwn(t *testing.T, what string, l [][]byte) {
	t.Helper()
	for i, x := range l {
		was := slices.Clone(l)
		for k := range was {
			was[k] = slices.Clone(was[k])
		}
		x = x[:cap(x)]
		for k := range x {
			x[k] ^= 255
		}
		for k := range l {
			if k != i && !bytes.Equal(l[k], was[k]) {
				t.Errorf("%s: chunk %d was changed with chunk %d", what, k, i)
			}
		}
	}
}

func TestSplitIsNewMemory(t *testing.T) {
	for _, b := range [][]byte{someBytes(5000), make([]byte, 3000), someBytes(10), lowAt(t, 500, 64, 128, 300)} {
		given := roomy(b)
		was := slices.Clone(given[:len(given)+200])
		l := chunk.Split(given)
		wantOwn(t, "Split", l)
		if !bytes.Equal(given[:len(given)+200], was) {
			t.Error("what was handed in was changed with an answer")
		}
		wantChunks(t, "again", b, told(b))
		kept := chunk.Split(given)
		for i := range given {
			given[i] ^= 255
		}
		if !slices.EqualFunc(kept, told(b), bytes.Equal) {
			t.Error("an answer was changed with what was handed in")
		}
	}
}
