package pack_test

import (
	"math"
	"slices"
	"testing"

	"satchel/api"
	"satchel/pack"
)

func wantPut(t *testing.T, b []byte) {
	t.Helper()
	r, id, err := pack.Put(b)
	if err != api.OK || id != idOf(b) || !slices.Equal(r, recordOf(b)) {
		t.Errorf("Put of %d bytes: %v, %v, %v; want %v, %v", len(b), r, id, err, recordOf(b), idOf(b))
	}
}

func wantNotPut(t *testing.T, b []byte, want api.Errno) {
	t.Helper()
	if r, id, err := pack.Put(b); err != want || r != nil || id != (api.ID{}) {
		t.Errorf("Put of %d bytes: %v, %v, %v; want %v", len(b), r, id, err, want)
	}
}

func TestPutOfEachSize(t *testing.T) {
	for n := 1; n <= 1024; n++ {
		wantPut(t, someBytes(n))
	}
	for _, n := range sizes {
		wantPut(t, make([]byte, n))
		wantPut(t, slices.Repeat([]byte{255}, n))
	}
}

func TestPutOfEachByte(t *testing.T) {
	for x := range 256 {
		wantPut(t, []byte{byte(x)})
	}
}

func TestPutOfNone(t *testing.T) {
	wantNotPut(t, nil, api.ErrArg)
	wantNotPut(t, []byte{}, api.ErrArg)
	wantNotPut(t, roomy(nil), api.ErrArg)
}

func TestPutOfTooMany(t *testing.T) {
	for _, n := range []int{1025, 1026, 2048, 65536, 65537, 1 << 20} {
		wantNotPut(t, make([]byte, n), api.ErrLong)
		wantNotPut(t, someBytes(n), api.ErrLong)
	}
}

func TestPutLaysItsParts(t *testing.T) {
	b := someBytes(258)
	r, id, _ := pack.Put(b)
	if !slices.Equal(r[:4], []byte{1, 2, 254, 253}) {
		t.Error("the size, and that turned:", r[:4])
	}
	if !slices.Equal(r[6:22], id[:]) || !slices.Equal(r[22:280], b) || len(r) != 284 {
		t.Error("the ID, the bytes and the sum:", len(r), r)
	}
}

func TestSizeOfEach(t *testing.T) {
	for n := 1; n <= 1024; n++ {
		r, _, _ := pack.Put(make([]byte, n))
		if got := pack.Size(n); got != n+26 || got != len(r) {
			t.Errorf("Size(%d): %d; the record has %d", n, got, len(r))
		}
	}
}

func TestSizeOfWhatNoChunkHas(t *testing.T) {
	for _, n := range []int{math.MinInt, math.MinInt32, -1025, -1024, -26, -1, 0, 1025, 1026, 65536, 65537, 1<<32 + 1, math.MaxInt32, math.MaxInt} {
		if got := pack.Size(n); got != 0 {
			t.Errorf("Size(%d): %d; want 0", n, got)
		}
	}
}
