package digest_test

import (
	"crypto/sha256"
	"testing"

	"satchel/digest"
)

// wantHas holds what a running digest tells of itself against the bytes that it should have, and asks twice, for nothing changes by it.
func wantHas(t *testing.T, what string, d *digest.Digest, b []byte) {
	t.Helper()
	for range 2 {
		if got, want := d.Sum(), sha256.Sum256(b); got != want {
			t.Errorf("%s: %d bytes: %x; want %x", what, len(b), got, want)
		}
		if got := d.Len(); got != len(b) {
			t.Errorf("%s: %d bytes; want %d", what, got, len(b))
		}
	}
}

func TestNewHasNoBytes(t *testing.T) {
	d := digest.New()
	wantHas(t, "new", d, nil)
	d.Write(nil)
	d.Write([]byte{})
	wantHas(t, "none were written", d, nil)
	wantHas(t, "another new one", digest.New(), nil)
}

func TestWriteAtTheEdges(t *testing.T) {
	for _, size := range edges {
		b := someBytes(size)
		d := digest.New()
		d.Write(b)
		wantHas(t, "at once", d, b)
		d.Write(nil)
		wantHas(t, "and none", d, b)
	}
}

func TestWhatIsWrittenStandsBehind(t *testing.T) {
	all := someBytes(260)
	d := digest.New()
	for i := range all {
		d.Write(all[i : i+1])
		wantHas(t, "byte by byte, asked behind each", d, all[:i+1])
	}
}

func TestAllCutsInTwo(t *testing.T) {
	for size := range 200 {
		b := someBytes(size)
		for cut := range size + 1 {
			d := digest.New()
			d.Write(b[:cut])
			d.Write(b[cut:])
			wantHas(t, "in two", d, b)
		}
	}
}

func TestManyPieces(t *testing.T) {
	b := someBytes(3000)
	want := sha256.Sum256(b)
	for n := 1; n < 300; n++ {
		d := digest.New()
		for at := 0; at < len(b); at += n {
			d.Write(b[at:min(at+n, len(b))])
			if n%2 == 0 {
				d.Sum()
				d.Write(nil)
			}
		}
		if d.Sum() != want || d.Len() != len(b) {
			t.Errorf("pieces of %d bytes", n)
		}
	}
}

// Pieces whose sizes differ, so that they meet the ends of blocks in many ways.
func TestUnevenPieces(t *testing.T) {
	b := someBytes(20000)
	for start := range 50 {
		d := digest.New()
		for at, n := 0, start; at < len(b); n = (n*5 + 3) % 193 {
			d.Write(b[at:min(at+n, len(b))])
			at += min(n, len(b)-at)
		}
		wantHas(t, "uneven pieces", d, b)
	}
}

func TestDigestsAreTheirOwn(t *testing.T) {
	a, b := digest.New(), digest.New()
	x, y := someBytes(100), someBytes(77)
	a.Write(x[:30])
	b.Write(y[:64])
	a.Write(x[30:])
	b.Write(y[64:])
	digest.Sum(someBytes(500))
	wantHas(t, "the one", a, x)
	wantHas(t, "the other", b, y)
}

func TestWriteKeepsNothing(t *testing.T) {
	given := someBytes(90)
	was := someBytes(90)
	d := digest.New()
	d.Write(given[:70])
	for i := range given {
		given[i] = 99
	}
	wantHas(t, "bytes that were changed behind the call", d, was[:70])
}

func TestSumIsNewMemory(t *testing.T) {
	d := digest.New()
	d.Write(someBytes(70))
	sum := d.Sum()
	for i := range sum {
		sum[i] = 99
	}
	wantHas(t, "an answer was changed", d, someBytes(70))
}

func TestDigestThatNewDidNotMake(t *testing.T) {
	copied := *digest.New()
	for i, d := range []*digest.Digest{nil, {}, new(digest.Digest), &copied} {
		for range 2 {
			if d.Sum() != [32]byte{} || d.Len() != 0 {
				t.Errorf("%d: %x, %d", i, d.Sum(), d.Len())
			}
			d.Write(nil)
			d.Write(someBytes(3))
			d.Write(someBytes(200))
		}
	}
}

// The number of bits has more than 32 bits of its own.
func TestMoreBitsThanAWordCounts(t *testing.T) {
	if testing.Short() {
		t.Skip("half a gigabyte is digested")
	}
	piece := someBytes(1 << 20)
	d, want := digest.New(), sha256.New()
	for range 1 << 9 {
		d.Write(piece)
		want.Write(piece)
	}
	d.Write(piece[:3])
	want.Write(piece[:3])
	if d.Sum() != [32]byte(want.Sum(nil)) || d.Len() != 1<<29+3 {
		t.Errorf("%x, %d; want %x", d.Sum(), d.Len(), want.Sum(nil))
	}
}
