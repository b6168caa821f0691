package pack_test

import (
	"slices"
	"testing"

	"satchel/api"
)

func TestScanOfNone(t *testing.T) {
	wantScan(t, "nil", nil, scanned{})
	wantScan(t, "empty", []byte{}, scanned{})
	// A record that lies in the spare room is none of theirs.
	wantScan(t, "spare room", recordOf([]byte{7})[:0], scanned{})
}

func TestScanOfOne(t *testing.T) {
	for _, n := range sizes {
		b, held := packOf(someBytes(n))
		wantScan(t, "one", b, scanned{held: held, size: n + more})
	}
}

func TestScanOfSeveral(t *testing.T) {
	var chunks [][]byte
	for _, n := range sizes {
		chunks = append(chunks, someBytes(n))
	}
	b, held := packOf(chunks...)
	wantScan(t, "of all sizes", b, scanned{held: held, size: len(b)})
}

// Records that are alike are each told: a pack has no other order than that of its places.
func TestScanOfSomeThatAreAlike(t *testing.T) {
	b, held := packOf([]byte{7}, []byte{7}, []byte{8}, []byte{7})
	wantScan(t, "alike", b, scanned{held: held, size: 108})
	if held[0].ID != held[3].ID || held[3].At != 81 {
		t.Error(held)
	}
}

func TestScanOfOneThatIsCutShort(t *testing.T) {
	for _, n := range []int{1, 2, 300, 1024} {
		r := recordOf(someBytes(n))
		for size := 1; size < len(r); size++ {
			wantScan(t, "cut short", r[:size], scanned{rest: api.Torn})
			wantScan(t, "cut short, all else in the spare room", r[:size:len(r)], scanned{rest: api.Torn})
		}
	}
}

func TestScanOfFewThatBeginNoHead(t *testing.T) {
	b, held := packOf(someBytes(40))
	for size := 1; size < 6; size++ {
		for _, x := range []byte{0, 1, 4, 5, 255} {
			few := slices.Repeat([]byte{x}, size)
			wantScan(t, "few", few, scanned{rest: api.Torn})
			wantScan(t, "few behind a record", slices.Concat(b, few), scanned{held: held, size: 66, rest: api.Torn})
		}
	}
}

// A head ends with its sixth byte: with all six there, what is none is bad.
func TestScanOfSixBytes(t *testing.T) {
	b, held := packOf(someBytes(40))
	for _, x := range []struct {
		what string
		six  []byte
		rest int
	}{
		{"noughts", make([]byte, 6), api.Bad},
		{"ones", slices.Repeat([]byte{255}, 6), api.Bad},
		{"some", someBytes(6), api.Bad},
		{"a head", headOf(1), api.Torn},
		{"another one", headOf(1024), api.Torn},
		{"that of none", headOf(0), api.Bad},
		{"that of too many", headOf(1025), api.Bad},
	} {
		wantScan(t, x.what, x.six, scanned{rest: x.rest})
		wantScan(t, x.what+" behind a record", slices.Concat(b, x.six), scanned{held: held, size: 66, rest: x.rest})
	}
}

// wantHeadRefused says that a scan ends ahead of such a head, with whatever stands behind it, and in front of it.
func wantHeadRefused(t *testing.T, what string, head []byte) {
	t.Helper()
	front, held := packOf(someBytes(3), someBytes(4))
	for _, behind := range [][]byte{nil, {0}, recordOf([]byte{7})[6:], recordOf([]byte{7}), someBytes(1300), make([]byte, 66000)} {
		wantScan(t, what, slices.Concat(head, behind), scanned{rest: api.Bad})
		wantScan(t, what+" behind records", slices.Concat(front, head, behind), scanned{held: held, size: 59, rest: api.Bad})
	}
}

func TestHeadsOfSizesThatMayNotBe(t *testing.T) {
	for _, n := range []int{0, 1025, 1026, 2048, 32768, 65510, 65535} {
		wantHeadRefused(t, "a size that may not be", headOf(n))
	}
	// A record of none, or of too many, is as it should be but for its size.
	wantHeadRefused(t, "a record of none", recordOf(nil))
	wantHeadRefused(t, "a record of too many", recordOf(someBytes(1025)))
}

func TestHeadsOfSizesThatMayBe(t *testing.T) {
	for _, n := range []int{1, 2, 1023, 1024} {
		b := slices.Concat(headOf(n), make([]byte, n+20))
		wantScan(t, "a head, and noughts", b, scanned{size: n + 26, bad: 1})
		wantScan(t, "a head, and too few noughts", b[:len(b)-1], scanned{rest: api.Torn})
		wantScan(t, "a head, and too many noughts", append(b, 0), scanned{size: n + 26, bad: 1, rest: api.Torn})
	}
}

func TestHeadsWithAWrongSum(t *testing.T) {
	right := headOf(300)
	for low := range 256 {
		if byte(low) != right[4] {
			wantHeadRefused(t, "the lower byte", append(slices.Clone(right[:4]), byte(low), right[5]))
		}
	}
	for high := range 256 {
		if byte(high) != right[5] {
			wantHeadRefused(t, "the higher byte", append(slices.Clone(right[:4]), right[4], byte(high)))
		}
	}
	all := sumBehind(right[:4])
	wantHeadRefused(t, "the higher byte first", append(slices.Clone(right[:4]), right[5], right[4]))
	wantHeadRefused(t, "the highest bytes of the sum", append(slices.Clone(right[:4]), all[6:]...))
	two := sumBehind(right[:2])
	wantHeadRefused(t, "the sum of the first two", append(slices.Clone(right[:4]), two[2:4]...))
}

// The sum of these heads is right: it is the turned bits that are not.
func TestHeadsWithWrongTurnedBits(t *testing.T) {
	for x := range 256 {
		if x != 254 {
			wantHeadRefused(t, "the higher byte", withHead(1, 44, byte(x), 211))
		}
		if x != 211 {
			wantHeadRefused(t, "the lower byte", withHead(1, 44, 254, byte(x)))
		}
	}
	wantHeadRefused(t, "not turned", withHead(1, 44, 1, 44))
	wantHeadRefused(t, "the lower first", withHead(1, 44, 211, 254))
	wantHeadRefused(t, "below 0", withHead(1, 44, 254, 212))
}

// The lower byte of a size first is another size, or none.
func TestHeadsTellTheHigherByteFirst(t *testing.T) {
	wantScan(t, "258", slices.Concat(withHead(1, 2, 254, 253), make([]byte, 258+20)), scanned{size: 284, bad: 1})
	wantHeadRefused(t, "1,281", withHead(5, 1, 250, 254))
}

func TestRecordsThatAreNotGoodAreSkipped(t *testing.T) {
	for _, n := range sizes {
		b := someBytes(n)
		id := idOf(b)
		for what, wrong := range map[string][]byte{
			"a wrong sum":                unguarded(b),
			"another ID":                 misnamed(b),
			"the ID of none":             slices.Concat(headOf(n), bodyOf(api.ID{}, b)),
			"the sum of the chunk alone": slices.Concat(headOf(n), bodyOf(id, b)[:16+n], sumBehind(b)[n:]),
			"noughts":                    slices.Concat(headOf(n), make([]byte, n+20)),
			"the ID behind the bytes":    slices.Concat(headOf(n), sumBehind(slices.Concat(b, id[:]))),
		} {
			wantScan(t, what, wrong, scanned{size: n + 26, bad: 1})
			all := slices.Concat(recordOf([]byte{7}), wrong, wrong, recordOf([]byte{8}), wrong, recordOf([]byte{7}))
			held := []api.Held{{ID: idOf([]byte{7}), At: 0, Size: 1}, {ID: idOf([]byte{8}), At: 27 + 2*(n+26), Size: 1}, {ID: idOf([]byte{7}), At: 54 + 3*(n+26), Size: 1}}
			wantScan(t, what+" among others", all, scanned{held: held, size: len(all), bad: 3})
		}
	}
}

// What a chunk holds is no record of the pack, whether the chunk is good or not.
func TestARecordWithinAChunk(t *testing.T) {
	inner, held := packOf([]byte{7}, []byte{8})
	outer, outerHeld := packOf(inner, []byte{9})
	wantScan(t, "good", outer, scanned{held: outerHeld, size: len(outer)})
	outer[6] ^= 1
	wantScan(t, "damaged", outer, scanned{held: outerHeld[1:], size: len(outer), bad: 1})
	wantScan(t, "from its first byte on", outer[22:22+54], scanned{held: held, size: 54})
	wantScan(t, "one byte ahead", outer[21:22+54], scanned{rest: api.Bad})
}

// wantEachTurnTold turns each bit of the middle one of three records.
func wantEachTurnTold(t *testing.T, chunk []byte) {
	t.Helper()
	all, held := packOf([]byte{7}, chunk, []byte{8})
	begin, end := held[1].At, held[2].At
	for bit := 8 * begin; bit < 8*end; bit++ {
		all[bit/8] ^= 1 << (bit % 8)
		if bit/8 < begin+6 {
			wantScan(t, "a head's bit", all, scanned{held: held[:1], size: begin, rest: api.Bad})
		} else {
			wantScan(t, "a body's bit", all, scanned{held: []api.Held{held[0], held[2]}, size: len(all), bad: 1})
		}
		all[bit/8] ^= 1 << (bit % 8)
	}
	wantScan(t, "none", all, scanned{held: held, size: len(all)})
}

func TestEachBitTurned(t *testing.T) {
	for _, n := range []int{1, 2, 64, 300, 1024} {
		wantEachTurnTold(t, someBytes(n))
		wantEachTurnTold(t, make([]byte, n))
	}
}

func TestScanOfNoughts(t *testing.T) {
	for _, n := range []int{6, 7, 27, 1050, 65536} {
		wantScan(t, "noughts", make([]byte, n), scanned{rest: api.Bad})
	}
}

func TestScanOfAGreatPack(t *testing.T) {
	var chunks [][]byte
	for i := range 65536 / 27 {
		chunks = append(chunks, []byte{byte(i)})
	}
	b, held := packOf(chunks...)
	wantScan(t, "of small chunks", b, scanned{held: held, size: 27 * len(held)})
	b, held = packOf(slices.Repeat([][]byte{someBytes(1024)}, 62)...)
	wantScan(t, "of great chunks", b, scanned{held: held, size: 62 * 1050})
}
