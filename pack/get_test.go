package pack_test

import (
	"math"
	"slices"
	"testing"

	"satchel/api"
)

// seven tells the chunk 7 at a place.
func seven(at int) api.Held { return api.Held{ID: idOf([]byte{7}), At: at, Size: 1} }

func TestGetOfEachSize(t *testing.T) {
	for _, n := range sizes {
		b, held := packOf(someBytes(n))
		wantGot(t, "one", b, held[0], someBytes(n))
		b, held = packOf([]byte{7}, someBytes(n), []byte{8})
		wantGot(t, "ahead", b, held[0], []byte{7})
		wantGot(t, "of three", b, held[1], someBytes(n))
		wantGot(t, "behind", b, held[2], []byte{8})
	}
}

func TestGetOfThoseThatAreAlike(t *testing.T) {
	b, held := packOf([]byte{7}, []byte{7}, []byte{7})
	for _, h := range held {
		wantGot(t, "alike", b, h, []byte{7})
	}
}

func TestGetOfAnEmptyPack(t *testing.T) {
	for _, at := range []int{math.MinInt, -1, 0, 1, math.MaxInt} {
		wantNone(t, "nil", nil, seven(at), api.ErrMissing)
		wantNone(t, "empty", []byte{}, seven(at), api.ErrMissing)
		wantNone(t, "spare room", recordOf([]byte{7})[:0], seven(at), api.ErrMissing)
	}
	wantNone(t, "nothing asked for", nil, api.Held{}, api.ErrMissing)
}

func TestGetAtEachPlace(t *testing.T) {
	b, _ := packOf([]byte{7}, []byte{7})
	for at := -60; at < 120; at++ {
		if at == 0 || at == 27 {
			wantGot(t, "a record's place", b, seven(at), []byte{7})
			continue
		}
		wantNone(t, "no record's place", b, seven(at), api.ErrMissing)
		wantNone(t, "no record's place", b, api.Held{At: at}, api.ErrMissing)
	}
}

func TestGetFarOutside(t *testing.T) {
	b, _ := packOf([]byte{7}, []byte{7})
	for _, at := range []int{math.MinInt, math.MinInt + 1, math.MinInt32, -1 << 32, -27, -1, 53, 54, 55, 81, 1 << 16, math.MaxInt32, 1 << 32, 1<<32 + 27, math.MaxInt - 27, math.MaxInt - 5, math.MaxInt} {
		wantNone(t, "outside", b, seven(at), api.ErrMissing)
		wantNone(t, "outside, in spare room", slices.Concat(b, b, b)[:54], seven(at), api.ErrMissing)
	}
}

func TestGetWithASizeThatTheHeadDoesNotSay(t *testing.T) {
	for _, n := range []int{1, 2, 256, 257, 1023, 1024} {
		b, held := packOf(someBytes(n), someBytes(n))
		for _, h := range held {
			for _, size := range []int{math.MinInt, -1024, -1, 0, 1, 2, 256, 257, 1023, 1024, 1025, n + 26, n + 1<<16, n + 1<<32, math.MaxInt} {
				if size != n {
					wantNone(t, "another size", b, api.Held{ID: h.ID, At: h.At, Size: size}, api.ErrMissing)
				}
			}
			wantGot(t, "its size", b, h, someBytes(n))
		}
	}
}

// The sum of these heads is right, and the sizes they say are asked for: there may be no such chunks.
func TestGetOfSizesThatMayNotBe(t *testing.T) {
	for _, n := range []int{0, 1025, 1026, 65535} {
		chunk := someBytes(n)
		b, held := packOf(chunk)
		wantNone(t, "a size that may not be", b, held[0], api.ErrMissing)
		wantNone(t, "behind a record", slices.Concat(recordOf([]byte{7}), b), api.Held{ID: held[0].ID, At: 27, Size: n}, api.ErrMissing)
	}
}

func TestGetWithAnotherID(t *testing.T) {
	b, held := packOf([]byte{7}, []byte{8})
	for _, h := range held {
		for bit := range 128 {
			other := h
			other.ID[bit/8] ^= 1 << (bit % 8)
			wantNone(t, "another ID", b, other, api.ErrDamaged)
		}
		wantNone(t, "no ID", b, api.Held{At: h.At, Size: h.Size}, api.ErrDamaged)
	}
	wantNone(t, "the other's ID", b, api.Held{ID: held[1].ID, At: 0, Size: 1}, api.ErrDamaged)
}

func TestGetOfOneThatIsCutShort(t *testing.T) {
	for _, n := range []int{1, 2, 300, 1024} {
		b, held := packOf([]byte{7}, someBytes(n))
		for size := held[1].At; size < len(b); size++ {
			wantNone(t, "cut short", b[:size:size], held[1], api.ErrMissing)
			wantNone(t, "cut short, all else in the spare room", b[:size], held[1], api.ErrMissing)
			wantGot(t, "ahead of it", b[:size], held[0], []byte{7})
		}
		wantGot(t, "whole", b, held[1], someBytes(n))
	}
}

func TestGetOfOneThatIsNotGood(t *testing.T) {
	for _, n := range sizes {
		chunk := someBytes(n)
		for what, wrong := range map[string][]byte{"a wrong sum": unguarded(chunk), "another ID": misnamed(chunk)} {
			b := slices.Concat(recordOf([]byte{7}), wrong, recordOf([]byte{7}))
			wantNone(t, what, b, api.Held{ID: idOf(chunk), At: 27, Size: n}, api.ErrDamaged)
			wantNone(t, what+", asked for by what it says", b, api.Held{ID: api.ID(wrong[6:]), At: 27, Size: n}, api.ErrDamaged)
			wantNone(t, what+", with another size", b, api.Held{ID: idOf(chunk), At: 27, Size: n + 1}, api.ErrMissing)
			wantNone(t, what+", cut short", b[:27+n+25], api.Held{ID: idOf(chunk), At: 27, Size: n}, api.ErrMissing)
			wantGot(t, what+" ahead", b, seven(27+n+26), []byte{7})
		}
	}
}

// A head that was turned is none: what was there is missing, not damaged.
func TestGetOfEachBitTurned(t *testing.T) {
	for _, n := range []int{1, 64, 300} {
		b, held := packOf([]byte{7}, someBytes(n), []byte{8})
		for bit := 8 * held[1].At; bit < 8*held[2].At; bit++ {
			b[bit/8] ^= 1 << (bit % 8)
			want := api.ErrDamaged
			if bit/8 < held[1].At+6 {
				want = api.ErrMissing
			}
			wantNone(t, "a bit turned", b, held[1], want)
			wantGot(t, "ahead", b, held[0], []byte{7})
			wantGot(t, "behind", b, held[2], []byte{8})
			b[bit/8] ^= 1 << (bit % 8)
		}
	}
}

// Get looks at one place alone: what is ahead of it may be anything, even the beginning of a chunk.
func TestGetLooksAtItsPlaceAlone(t *testing.T) {
	b := slices.Concat(make([]byte, 100), recordOf([]byte{7}), make([]byte, 100))
	wantGot(t, "among noughts", b, seven(100), []byte{7})
	wantScan(t, "among noughts", b, scanned{rest: api.Bad})
	outer, _ := packOf(slices.Concat([]byte{1, 2, 3}, recordOf([]byte{7})))
	wantGot(t, "within a chunk", outer, seven(25), []byte{7})
}
