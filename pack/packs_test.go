package pack_test

import (
	"crypto/sha256"
	"hash/crc32"
	"math/rand"
	"slices"
	"testing"

	"satchel/api"
	"satchel/pack"
)

// more is how many bytes a record has more than its chunk.
const more = 26

// sizes are how many bytes a chunk has that may be: the edges, and those about which a byte of the number is another one.
var sizes = []int{1, 2, 63, 64, 255, 256, 257, 511, 512, 767, 768, 1023, 1024}

// someBytes tells so many bytes that differ with their place.
func someBytes(n int) []byte {
	b := make([]byte, n)
	rand.New(rand.NewSource(int64(n))).Read(b)
	return b
}

// roomy tells the same bytes with spare room behind them, which holds others.
func roomy(b []byte) []byte {
	all := append(slices.Clone(b), someBytes(2000)...)
	return all[:len(b)]
}

// idOf tells a chunk's ID in another way than the program.
func idOf(b []byte) api.ID {
	sum := sha256.Sum256(b)
	return api.ID(sum[:16])
}

// sumBehind tells bytes with their sum behind them, its lowest byte first, in another way than the program.
func sumBehind(b []byte) []byte {
	sum := crc32.ChecksumIEEE(b)
	return append(slices.Clone(b), byte(sum), byte(sum>>8), byte(sum>>16), byte(sum>>24))
}

// headOf tells a head that says so many bytes, whether there may be so many or not.
func headOf(n int) []byte {
	return sumBehind([]byte{byte(n >> 8), byte(n), byte(^n >> 8), byte(^n)})[:6]
}

// withHead tells a head whose sum is right, whatever is in the four bytes ahead of it.
func withHead(a, b, c, d byte) []byte { return sumBehind([]byte{a, b, c, d})[:6] }

// bodyOf tells the body of a record that says this ID, whether it is that of the bytes or not.
func bodyOf(id api.ID, b []byte) []byte { return sumBehind(slices.Concat(id[:], b)) }

// recordOf tells a chunk's record as the document's words say it.
func recordOf(b []byte) []byte { return slices.Concat(headOf(len(b)), bodyOf(idOf(b), b)) }

// misnamed tells a record that is guarded, but has the ID of other bytes.
func misnamed(b []byte) []byte {
	return slices.Concat(headOf(len(b)), bodyOf(idOf(append(slices.Clone(b), 0)), b))
}

// unguarded tells a record that has the right ID, but a wrong sum behind it.
func unguarded(b []byte) []byte {
	r := recordOf(b)
	r[len(r)-4] ^= 1
	return r
}

// isHead tells whether bytes begin with a head, and how many bytes that says.
func isHead(b []byte) (int, bool) {
	if len(b) < 6 {
		return 0, false
	}
	n := 256*int(b[0]) + int(b[1])
	turned := b[2] == 255-b[0] && b[3] == 255-b[1]
	sum := crc32.ChecksumIEEE(b[:4]) % 65536
	return n, turned && sum == uint32(b[4])+256*uint32(b[5]) && n >= 1 && n <= 1024
}

// isGood tells whether a record is good, all of which is there.
func isGood(r []byte) bool {
	body := r[6:]
	end := len(body) - 4
	return slices.Equal(body, sumBehind(body[:end])) && api.ID(body) == idOf(body[16:end])
}

// scanned is what Scan tells.
type scanned struct {
	held            []api.Held
	size, bad, rest int
}

func (s scanned) same(x scanned) bool {
	return slices.Equal(s.held, x.held) && s.size == x.size && s.bad == x.bad && s.rest == x.rest
}

// toldScan tells a scan as the document's words say it: the first record, and then what is behind it.
func toldScan(b []byte) scanned {
	n, is := isHead(b)
	switch {
	case len(b) == 0:
		return scanned{rest: api.Whole}
	case len(b) < 6, is && len(b) < n+more:
		return scanned{rest: api.Torn}
	case !is:
		return scanned{rest: api.Bad}
	}
	first, behind := b[:n+more], toldScan(b[n+more:])
	for i := range behind.held {
		behind.held[i].At += len(first)
	}
	behind.size += len(first)
	if isGood(first) {
		behind.held = slices.Insert(behind.held, 0, api.Held{ID: api.ID(first[6:]), Size: n})
	} else {
		behind.bad++
	}
	return behind
}

// toldGet tells a chunk as the document's words say it.
func toldGet(b []byte, h api.Held) ([]byte, api.Errno) {
	if h.At < 0 || h.At > len(b) {
		return nil, api.ErrMissing
	}
	b = b[h.At:]
	if n, is := isHead(b); !is || n != h.Size || len(b) < n+more {
		return nil, api.ErrMissing
	}
	b = b[:h.Size+more]
	if !isGood(b) || api.ID(b[6:]) != h.ID {
		return nil, api.ErrDamaged
	}
	return b[22 : 22+h.Size], api.OK
}

// wantScan says what a pack is scanned as.
func wantScan(t *testing.T, what string, b []byte, want scanned) {
	t.Helper()
	held, size, bad, rest := pack.Scan(b)
	if got := (scanned{held, size, bad, rest}); !got.same(want) {
		t.Errorf("%s: %d bytes are scanned as %v; want %v", what, len(b), got, want)
	}
}

// wantGot says that a chunk is got.
func wantGot(t *testing.T, what string, b []byte, h api.Held, want []byte) {
	t.Helper()
	if got, err := pack.Get(b, h); err != api.OK || !slices.Equal(got, want) {
		t.Errorf("%s: Get of %v: %v, %v; want %v", what, h, got, err, want)
	}
}

// wantNone says that a chunk is not got, and nothing is told of it.
func wantNone(t *testing.T, what string, b []byte, h api.Held, want api.Errno) {
	t.Helper()
	if got, err := pack.Get(b, h); err != want || got != nil {
		t.Errorf("%s: Get of %v: %v, %v; want %v", what, h, got, err, want)
	}
}

// packOf tells the records of chunks, one behind the other, and where each lies.
func packOf(chunks ...[]byte) ([]byte, []api.Held) {
	var b []byte
	var held []api.Held
	for _, chunk := range chunks {
		held = append(held, api.Held{ID: idOf(chunk), At: len(b), Size: len(chunk)})
		b = append(b, recordOf(chunk)...)
	}
	return b, held
}
