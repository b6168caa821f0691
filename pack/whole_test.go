package pack_test

import (
	"math/rand"
	"slices"
	"testing"

	"satchel/api"
	"satchel/pack"
)

// put tells a chunk's record as the program does.
func put(t *testing.T, b []byte) []byte {
	t.Helper()
	r, _, err := pack.Put(b)
	if err != api.OK {
		t.Fatalf("Put of %d bytes: %v", len(b), err)
	}
	return r
}

func TestExamples(t *testing.T) {
	r := put(t, []byte{7})
	if pack.Size(1) != 27 || pack.Size(1024) != 1050 || pack.Size(0) != 0 {
		t.Error(pack.Size(1), pack.Size(1024), pack.Size(0))
	}
	wantNotPut(t, nil, api.ErrArg)
	wantNotPut(t, make([]byte, 1025), api.ErrLong)
	if !slices.Equal(r[:4], []byte{0, 1, 255, 254}) {
		t.Error(r[:4])
	}
	wantScan(t, "r r, and 26 bytes of r", slices.Concat(r, r, r[:26]), scanned{held: []api.Held{seven(0), seven(27)}, size: 54, rest: api.Torn})
	last, second := slices.Concat(r, r), slices.Concat(r, r)
	last[26] ^= 1
	second[1] ^= 1
	wantScan(t, "its last byte turned", last, scanned{held: []api.Held{seven(27)}, size: 54, bad: 1})
	wantScan(t, "its second byte turned", second, scanned{rest: api.Bad})
	wantGot(t, "at 0", r, seven(0), []byte{7})
	wantNone(t, "at 1", r, seven(1), api.ErrMissing)
	wantNone(t, "with Size 2", r, api.Held{ID: idOf([]byte{7}), Size: 2}, api.ErrMissing)
	wantNone(t, "with another ID", r, api.Held{ID: idOf([]byte{8}), Size: 1}, api.ErrDamaged)
}

// fewChunks tells some chunks of sizes that differ, some of them alike.
func fewChunks() [][]byte {
	return [][]byte{someBytes(1), someBytes(30), {0}, someBytes(1), make([]byte, 70), recordOf([]byte{7}), someBytes(300)}
}

// Records one behind the other are scanned as their chunks, and got; cut short anywhere, as those that are whole.
func TestWhereverAPackIsCutShort(t *testing.T) {
	var b []byte
	var ends []int
	chunks := fewChunks()
	for _, chunk := range chunks {
		b = append(b, put(t, chunk)...)
		ends = append(ends, len(b))
	}
	_, held := packOf(chunks...)
	for cut := range len(b) + 1 {
		whole, size := 0, 0
		for whole < len(ends) && ends[whole] <= cut {
			size = ends[whole]
			whole++
		}
		rest := api.Torn
		if size == cut {
			rest = api.Whole
		}
		wantScan(t, "cut short", b[:cut], scanned{held: held[:whole], size: size, rest: rest})
		for i, h := range held {
			if i < whole {
				wantGot(t, "whole", b[:cut], h, chunks[i])
			} else {
				wantNone(t, "not all there", b[:cut], h, api.ErrMissing)
			}
		}
	}
}

// turn turns bits from one on, where the pattern's bits are set, the lowest bit of a byte first.
func turn(b []byte, from int, pattern uint32) {
	for i := range 32 {
		if pattern>>i&1 == 1 {
			b[(from+i)/8] ^= 1 << ((from + i) % 8)
		}
	}
}

// patterns are bits that are turned together, with how many bits they are long.
var patterns = []struct {
	bits uint32
	long int
}{{1, 1}, {3, 2}, {255, 8}, {1<<15 | 1, 16}, {1<<31 | 1, 32}, {1<<32 - 1, 32}, {0xedb88320, 32}, {0x82608edb, 32}, {0xb5a30f01, 32}}

// Bits of a body that are turned, all within 32 in a row, cost just that record.
func TestTurnsWithinABody(t *testing.T) {
	chunks := fewChunks()
	b, held := packOf(chunks...)
	for i, h := range held {
		others := slices.Delete(slices.Clone(held), i, i+1)
		begin, end := 8*(h.At+6), 8*(h.At+h.Size+more)
		for _, p := range patterns {
			for from := begin; from+p.long <= end; from += 1 + (end-begin)/200 {
				turn(b, from, p.bits)
				wantScan(t, "turned", b, scanned{held: others, size: len(b), bad: 1})
				wantNone(t, "turned", b, h, api.ErrDamaged)
				turn(b, from, p.bits)
			}
		}
	}
	wantScan(t, "turned back", b, scanned{held: held, size: len(b)})
}

// A bit of a head that is turned ends the scan, but leaves what can be got by its place.
func TestATurnOfAHead(t *testing.T) {
	chunks := fewChunks()
	b, held := packOf(chunks...)
	for i, h := range held {
		for bit := 8 * h.At; bit < 8*(h.At+6); bit++ {
			turn(b, bit, 1)
			wantScan(t, "a head turned", b, scanned{held: held[:i], size: h.At, rest: api.Bad})
			for j, x := range held {
				if j == i {
					wantNone(t, "a head turned", b, x, api.ErrMissing)
				} else {
					wantGot(t, "another one", b, x, chunks[j])
				}
			}
			turn(b, bit, 1)
		}
	}
}

// aPiece tells something that may stand in a file: mostly records, good or not.
func aPiece(r *rand.Rand) []byte {
	chunk := someBytes(1 + r.Intn(40))
	if r.Intn(6) == 0 {
		chunk = someBytes(sizes[r.Intn(len(sizes))])
	}
	switch r.Intn(14) {
	case 0:
		return unguarded(chunk)
	case 1:
		return misnamed(chunk)
	case 2:
		return recordOf(recordOf(chunk[:min(len(chunk), 500)]))
	case 3:
		return headOf([]int{0, 1, 40, 1024, 1025, 65535}[r.Intn(6)])
	case 4:
		return someBytes(r.Intn(9))
	case 5:
		return recordOf(chunk)[:r.Intn(len(chunk)+more)]
	}
	return recordOf(chunk)
}

// aPack tells what a file may hold, some of its bits turned.
func aPack(r *rand.Rand) []byte {
	var b []byte
	for range r.Intn(8) {
		b = append(b, aPiece(r)...)
	}
	for r.Intn(3) == 0 && len(b) > 0 {
		b[r.Intn(len(b))] ^= 1 << r.Intn(8)
	}
	return b[:len(b):len(b)]
}

// wantToldGet compares what is got at a place with what the document's words say.
func wantToldGet(t *testing.T, b []byte, h api.Held) {
	t.Helper()
	chunk, want := toldGet(b, h)
	if want == api.OK {
		wantGot(t, "as the words say", b, h, chunk)
	} else {
		wantNone(t, "as the words say", b, h, want)
	}
}

func TestAsTheWordsSay(t *testing.T) {
	r := rand.New(rand.NewSource(17))
	rests := map[int]int{}
	for range 3000 {
		b := aPack(r)
		want := toldScan(b)
		rests[want.rest]++
		wantScan(t, "as the words say", b, want)
		for _, h := range want.held {
			wantToldGet(t, b, h)
			h.At += r.Intn(3) - 1
			wantToldGet(t, b, h)
			h.Size += r.Intn(3) - 1
			wantToldGet(t, b, h)
			h.ID[r.Intn(16)] ^= byte(r.Intn(2))
			wantToldGet(t, b, h)
		}
		for at := range len(b) {
			if n, is := isHead(b[at:]); is {
				wantToldGet(t, b, api.Held{ID: api.ID(append(slices.Clone(b[at+6:]), make([]byte, 16)...)), At: at, Size: n})
			}
		}
		if t.Failed() {
			t.Fatalf("the pack is %v", b)
		}
	}
	for _, rest := range []int{api.Whole, api.Torn, api.Bad} {
		if rests[rest] < 100 {
			t.Errorf("just %d packs were left %d", rests[rest], rest)
		}
	}
}

func TestSomeBytesAsTheWordsSay(t *testing.T) {
	r := rand.New(rand.NewSource(18))
	for range 20000 {
		b := make([]byte, r.Intn(60))
		r.Read(b)
		wantScan(t, "some bytes", b, toldScan(b))
		wantToldGet(t, b, api.Held{At: r.Intn(70) - 5, Size: r.Intn(4)})
	}
}
