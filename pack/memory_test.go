package pack_test

import (
	"bytes"
	"slices"
	"testing"

	"satchel/api"
	"satchel/pack"
)

// spoil turns all bits of bytes, and of the spare room behind them.
func spoil(b []byte) {
	b = b[:cap(b)]
	for i := range b {
		b[i] ^= 255
	}
}

func TestPutSharesNoMemory(t *testing.T) {
	for _, n := range sizes {
		b := roomy(someBytes(n))
		whole := slices.Clone(b[:cap(b)])
		r, _, _ := pack.Put(b)
		again, _, _ := pack.Put(b)
		if !bytes.Equal(b[:cap(b)], whole) {
			t.Errorf("%d bytes, or the room behind them, are others behind Put", n)
		}
		spoil(r)
		if !bytes.Equal(b[:cap(b)], whole) || !bytes.Equal(again, recordOf(someBytes(n))) {
			t.Errorf("a record of %d bytes shares memory with what was put, or with another one", n)
		}
		spoil(b)
		if !bytes.Equal(again, recordOf(someBytes(n))) {
			t.Errorf("a record of %d bytes is others when what was put is", n)
		}
	}
}

func TestScanSharesNoMemory(t *testing.T) {
	made, want := packOf(someBytes(1), someBytes(300), someBytes(1024), someBytes(1))
	b := roomy(append(made, 1, 2, 3))
	whole := slices.Clone(b[:cap(b)])
	held, _, _, _ := pack.Scan(b)
	again, _, _, _ := pack.Scan(b)
	clear(held[:cap(held)])
	if !bytes.Equal(b[:cap(b)], whole) || !slices.Equal(again, want) {
		t.Error("what is scanned shares memory with the pack, or with what was scanned ahead")
	}
	spoil(b)
	if !slices.Equal(again, want) {
		t.Error("what was scanned is another one when the pack is")
	}
}

func TestGetSharesNoMemory(t *testing.T) {
	for _, n := range sizes {
		made, held := packOf([]byte{7}, someBytes(n), []byte{8})
		b := roomy(made)
		whole := slices.Clone(b[:cap(b)])
		chunk, _ := pack.Get(b, held[1])
		again, _ := pack.Get(b, held[1])
		spoil(chunk)
		if !bytes.Equal(b[:cap(b)], whole) || !bytes.Equal(again, someBytes(n)) {
			t.Errorf("a chunk of %d bytes shares memory with the pack, or with another one", n)
		}
		spoil(b)
		if !bytes.Equal(again, someBytes(n)) {
			t.Errorf("a chunk of %d bytes is others when the pack is", n)
		}
	}
}

// What is refused, or skipped, is not changed either.
func TestNothingHandedInIsChanged(t *testing.T) {
	b := roomy(slices.Concat(unguarded(someBytes(9)), misnamed(someBytes(8)), recordOf([]byte{7}), headOf(0), someBytes(50)))
	whole := slices.Clone(b[:cap(b)])
	pack.Scan(b)
	for at := range len(b) {
		for _, size := range []int{0, 1, 8, 9} {
			pack.Get(b, api.Held{ID: idOf([]byte{7}), At: at, Size: size})
		}
	}
	pack.Put(b[:0])
	pack.Put(b)
	if !bytes.Equal(b[:cap(b)], whole) {
		t.Error("what was handed in is others")
	}
}
