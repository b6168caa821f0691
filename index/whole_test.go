package index_test

import (
	"hash/crc32"
	"math"
	"slices"
	"testing"

	"satchel/api"
	"satchel/index"
)

// small tells some indexes whose bytes are few.
func small() [][]api.Packed {
	return slices.DeleteFunc(indexes(), func(l []api.Packed) bool { return len(toldBody(l)) > 400 })
}

// An index that is cut short anywhere is none. (P18.5)
func TestIndexesCutShort(t *testing.T) {
	for _, l := range small() {
		b := toldBytes(l)
		for k := range b {
			wantNone(t, "cut behind", b[:k:k])
			if k > 0 {
				wantNone(t, "cut ahead", b[k:])
			}
		}
	}
	b := toldBytes(manyOf(500, 20000))
	for k := 0; k < len(b); k += 9973 {
		wantNone(t, "a great one", b[:k:k])
	}
	wantNone(t, "a great one, by one byte", b[:len(b)-1])
}

// What is cut short is none either, if what is left is rightly guarded. (P18.5)
func TestIndexesCutShortAndGuarded(t *testing.T) {
	for _, l := range small() {
		b := toldBody(l)
		for k := range b {
			wantNone(t, "cut short, and guarded", guarded(b[:k]))
		}
	}
}

// An ID may be such that it ends what is ahead of it with its sum: cut right behind that, it is no index. (P18.5)
func TestIndexesWithASumWithin(t *testing.T) {
	for ahead := range 13 {
		p := packOf(3, 1)
		b := toldBody([]api.Packed{p})[:4+ahead]
		sum := crc32.ChecksumIEEE(b)
		for i := range 4 {
			p.L[0].ID[ahead+i] = byte(sum >> (8 * i))
		}
		whole := toldBytes([]api.Packed{p})
		if !slices.Equal(whole[:4+ahead+4], guarded(whole[:4+ahead])) {
			t.Fatal("the test's own sum is wrong")
		}
		wantNone(t, "cut behind a sum", whole[:4+ahead+4])
		wantThereAndBack(t, "with a sum within", []api.Packed{p})
	}
}

// An index of which a bit was turned is none. (P18.5)
func TestIndexesOfWhichABitWasTurned(t *testing.T) {
	for _, l := range small() {
		b := toldBytes(l)
		for bit := range 8 * len(b) {
			b[bit/8] ^= 1 << (bit % 8)
			wantNone(t, "a bit turned", b)
			b[bit/8] ^= 1 << (bit % 8)
		}
	}
	b := toldBytes(manyOf(500, 20000))
	for bit := 0; bit < 8*len(b); bit += 99991 {
		b[bit/8] ^= 1 << (bit % 8)
		wantNone(t, "a bit of a great one turned", b)
		b[bit/8] ^= 1 << (bit % 8)
	}
}

// So is one of which bits were turned within 32 in a row. (P6)
func TestIndexesOfWhichBitsWereTurned(t *testing.T) {
	b := toldBytes([]api.Packed{packOf(3, 1, 2), packOf(7, 5)})
	for i := range 20000 {
		s := someBytes(int64(i), 8)
		begin := (int(s[4]) + 256*int(s[5])) % (8*len(b) - 31)
		turned := slices.Clone(b)
		some := false
		for k := range 32 {
			if s[k/8]>>(k%8)&1 == 1 {
				turned[(begin+k)/8] ^= 1 << ((begin + k) % 8)
				some = true
			}
		}
		if some {
			wantNone(t, "bits turned", turned)
		}
	}
}

// Every call ends, and none panics, at whatever numbers. (P1)
func TestEveryCallEnds(t *testing.T) {
	edges := []int{math.MinInt, math.MinInt32, -1, 0, 1, 26, 27, 1024, 65536, 999999, math.MaxInt32, math.MaxInt - 26, math.MaxInt}
	for _, number := range edges {
		index.Parse(index.Name(number))
		for _, size := range edges {
			for _, at := range edges {
				for _, n := range edges {
					h := api.Held{At: at, Size: n}
					l := []api.Packed{{Number: number, Size: size, L: []api.Held{h}}, {Number: number, Size: size, L: []api.Held{h, h}}}
					wantCheck(t, "edges", l, toldCheck(l))
					wantCheck(t, "edges of the first", l[:1], toldCheck(l[:1]))
					wantFound(t, "edges", l, api.ID{}, number, h)
				}
			}
			files := []api.Filed{{Number: number}, {Number: number, B: make([]byte, 27)}}
			l := []api.Packed{{Number: number, Size: size}}
			want, scanned := toldMerge(l, files)
			wantMerged(t, "edges", l, files, want, scanned...)
		}
	}
}

// What is told hangs on what is handed in alone: each call answers the same again.
func TestEveryCallAnswersTheSameAgain(t *testing.T) {
	for _, l := range indexes() {
		b, _ := index.Bytes(l)
		ids := index.IDs(l)
		files := []api.Filed{fileOf(t, 1, []byte{1}), {Number: 3, B: make([]byte, 27)}, {Number: 999999, B: make([]byte, 65536)}}
		merged, scanned := index.Merge(l, files)
		for range 3 {
			again, _ := index.Bytes(l)
			got, numbers := index.Merge(l, files)
			if !slices.Equal(again, b) || !slices.Equal(index.IDs(l), ids) || !same(got, merged) || !slices.Equal(numbers, scanned) {
				t.Error("another answer")
			}
		}
	}
}
