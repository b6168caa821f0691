package digest_test

import (
	"bytes"
	"crypto/sha256"
	"encoding/hex"
	"strings"
	"testing"

	"satchel/api"
	"satchel/digest"
)

// examples are texts and their digests, as they are told elsewhere: the document's own, and one of many blocks.
var examples = []struct{ text, digest string }{
	{"", "e3b0c442 98fc1c14 9afbf4c8 996fb924 27ae41e4 649b934c a495991b 7852b855"},
	{"abc", "ba7816bf 8f01cfea 414140de 5dae2223 b00361a3 96177a9c b410ff61 f20015ad"},
	{"abcdbcdecdefdefgefghfghighijhijkijkljklmklmnlmnomnopnopq", "248d6a61 d20638b8 e5c02693 0c3e6039 a33ce459 64ff2167 f6ecedd4 19db06c1"},
	{strings.Repeat("a", 1000000), "cdc76e5c 9914fb92 81a1c7e2 84d73e67 f1809a48 a497200e 046d39cc c7112cd0"},
}

// edges are sizes at which what fills bytes up changes, and those about them.
var edges = []int{0, 1, 2, 3, 4, 31, 32, 54, 55, 56, 57, 62, 63, 64, 65, 66, 118, 119, 120, 121, 126, 127, 128, 129, 183, 184, 191, 192, 193, 1023, 1024, 1025}

// someBytes tells so many bytes that differ with their place.
func someBytes(size int) []byte {
	b := make([]byte, size)
	x := uint32(size) + 1
	for i := range b {
		x = x*1664525 + 1013904223
		b[i] = byte(x >> 24)
	}
	return b
}

// wantDigest holds what Sum and ID tell of bytes against their digest.
func wantDigest(t *testing.T, what string, b []byte, want [32]byte) {
	t.Helper()
	if got := digest.Sum(b); got != want {
		t.Errorf("Sum of %s: %x; want %x", what, got, want)
	}
	var half api.ID
	copy(half[:], want[:16])
	if got := digest.ID(b); got != half {
		t.Errorf("ID of %s: %x; want %x", what, got, half)
	}
}

func TestExamples(t *testing.T) {
	for _, x := range examples {
		want, err := hex.DecodeString(strings.ReplaceAll(x.digest, " ", ""))
		if err != nil {
			t.Fatal(err)
		}
		wantDigest(t, x.text[:min(len(x.text), 9)], []byte(x.text), [32]byte(want))
	}
	if got := digest.Text(digest.ID([]byte("abc"))); got != "ba7816bf8f01cfea414140de5dae2223" {
		t.Error(got)
	}
	if id, f := digest.Parse("BA7816BF8F01CFEA414140DE5DAE2223"); id != (api.ID{}) || f != (api.Fault{Err: api.ErrBytes, At: 0}) {
		t.Error(id, f)
	}
}

func TestSumOfNone(t *testing.T) {
	want := sha256.Sum256(nil)
	wantDigest(t, "nil", nil, want)
	wantDigest(t, "no bytes", []byte{}, want)
}

func TestSumOfEachSize(t *testing.T) {
	for size := range 400 {
		b := someBytes(size)
		wantDigest(t, "some bytes", b, sha256.Sum256(b))
	}
	for _, size := range edges {
		for _, x := range []byte{0, 1, 128, 255} {
			b := bytes.Repeat([]byte{x}, size)
			wantDigest(t, "the same bytes", b, sha256.Sum256(b))
		}
	}
}

func TestSumOfManyBlocks(t *testing.T) {
	for _, size := range []int{1<<13 - 1, 1 << 13, 1 << 16, 1<<16 + 9, 1 << 20, 1<<21 + 1} {
		b := someBytes(size)
		wantDigest(t, "many bytes", b, sha256.Sum256(b))
	}
}

// Each bit of what is digested, and of a block, has its part in the digest.
func TestEachBitCounts(t *testing.T) {
	b := someBytes(64)
	for i := range 8 * len(b) {
		b[i/8] ^= 1 << (i % 8)
		wantDigest(t, "bytes with a bit turned", b, sha256.Sum256(b))
		b[i/8] ^= 1 << (i % 8)
	}
}

func TestSumChangesNothing(t *testing.T) {
	for _, size := range edges {
		room := someBytes(size + 200)
		was := bytes.Clone(room)
		given := room[:size]
		wantDigest(t, "bytes with room behind them", given, sha256.Sum256(was[:size]))
		d := digest.New()
		d.Write(given)
		d.Sum()
		if !bytes.Equal(room, was) {
			t.Errorf("%d bytes: what was handed in was changed", size)
		}
	}
}
