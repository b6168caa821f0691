package index_test

import (
	"bytes"
	"math/rand"
	"slices"
	"testing"

	"satchel/api"
	"satchel/index"
)

// wantThereAndBack says that an index is written as the words say it, and read as it was.
func wantThereAndBack(t *testing.T, what string, l []api.Packed) {
	t.Helper()
	b, err := index.Bytes(l)
	if err != api.OK || !bytes.Equal(b, toldBytes(l)) {
		t.Errorf("%s: Bytes of %d packs: %d bytes, %v", what, len(l), len(b), err)
	}
	got, err := index.Read(b)
	if err != api.OK || !same(got, l) {
		t.Errorf("%s: Read of %d bytes: %d packs, %v; want %d", what, len(b), len(got), err, len(l))
	}
}

// wantNone says that bytes are no index, and nothing is told of them.
func wantNone(t *testing.T, what string, b []byte) {
	t.Helper()
	if l, err := index.Read(b); err != api.ErrBytes || l != nil {
		t.Errorf("%s: Read of %d bytes: %d packs, %v", what, len(b), len(l), err)
	}
}

func TestExamplesOfBytes(t *testing.T) {
	b, err := index.Bytes(nil)
	if err != api.OK || !bytes.Equal(b, guarded([]byte{0})) {
		t.Error(b, err)
	}
	if l, err := index.Read(b); err != api.OK || len(l) != 0 {
		t.Error(l, err)
	}
	for bit := range 8 * len(b) {
		b[bit/8] ^= 1 << (bit % 8)
		wantNone(t, "a bit turned", b)
		b[bit/8] ^= 1 << (bit % 8)
	}
}

// The parts of an index's bytes, in their order.
func TestBytesLayTheirParts(t *testing.T) {
	id := api.ID{1, 2, 3, 4, 5, 6, 7, 8, 9, 10, 11, 12, 13, 14, 15, 16}
	b, _ := index.Bytes([]api.Packed{{Number: 3, Size: 300, L: []api.Held{{ID: id, At: 130, Size: 129}}}, {Number: 5}})
	want := slices.Concat([]byte{2, 3, 130, 44, 1}, id[:], []byte{129, 2, 129, 1, 5, 0, 0})
	if !bytes.Equal(b, guarded(want)) {
		t.Errorf("%v; want %v, and its sum", b, want)
	}
}

func TestIndexesThereAndBack(t *testing.T) {
	for _, l := range indexes() {
		wantThereAndBack(t, "one that may be", l)
	}
	r := rand.New(rand.NewSource(5))
	for range 5000 {
		wantThereAndBack(t, "whatever index", anIndex(r))
	}
}

func TestIndexesOfManyThereAndBack(t *testing.T) {
	for _, packs := range []int{0, 1, 127, 128, 499, 500} {
		wantThereAndBack(t, "packs without chunks", manyOf(packs, 0))
	}
	for _, packs := range []int{9, 100, 500} {
		wantThereAndBack(t, "20,000 chunks", manyOf(packs, 20000))
	}
}

// What may not be is not written; written by another hand, and rightly guarded, it is not read.
func TestReadOfWhatMayNotBe(t *testing.T) {
	number, above, size, chunk, great, short, over := packOf(3, 1), packOf(3, 1), packOf(3), packOf(3, 1), packOf(3, 1), packOf(3, 1), packOf(3, 1, 1)
	number.Number, above.Number, size.Size, short.Size = 0, 1000000, 65537, 26
	chunk.L[0].Size, great.L[0].Size, great.Size, over.L[1].At = 0, 1025, 1051, 26
	for _, p := range []api.Packed{number, above, size, chunk, great, short, over} {
		wantNone(t, "may not be", toldBytes([]api.Packed{p}))
		wantNone(t, "may not be, behind one", toldBytes([]api.Packed{packOf(1, 1), p}))
	}
	wantNone(t, "the same number", toldBytes([]api.Packed{packOf(3, 1), packOf(3, 1)}))
	wantNone(t, "a lower number", toldBytes([]api.Packed{packOf(3, 1), packOf(2, 1)}))
	wantNone(t, "501 packs", toldBytes(manyOf(501, 0)))
	wantNone(t, "20,001 chunks", toldBytes(manyOf(500, 20001)))
	wantNone(t, "20,001 chunks in one pack", toldBytes(manyOf(1, 20001)))
	wantNone(t, "20,000 chunks in one pack, beyond its Size", toldBytes(manyOf(1, 20000)))
}

func TestReadOfWhateverIndexes(t *testing.T) {
	r := rand.New(rand.NewSource(6))
	refused := 0
	for range 20000 {
		l := spoilt(r, anIndex(r))
		switch toldCheck(l) {
		case api.OK:
			wantThereAndBack(t, "another number", l)
		case api.ErrArg:
			refused++
			wantNone(t, "may not be", toldBytes(l))
		}
	}
	if refused < 1000 {
		t.Error(refused)
	}
}

// Rightly guarded, but not just the bytes of an index.
func TestReadOfOtherBytes(t *testing.T) {
	whole := toldBody([]api.Packed{packOf(3, 1), packOf(7)})
	id := make([]byte, 16)
	for what, b := range map[string][]byte{
		"nothing":                           {},
		"a byte behind no packs":            {0, 0},
		"a byte behind an index":            append(slices.Clone(whole), 0),
		"an index behind an index":          slices.Concat(whole, whole),
		"a sum behind an index":             guarded(whole),
		"a pack that is not there":          {1},
		"a number alone":                    {1, 3},
		"a number and a Size":               {1, 3, 27},
		"a chunk that is not there":         {1, 3, 27, 1},
		"an ID that is cut short":           append([]byte{1, 3, 27, 1}, id[:15]...),
		"an ID alone":                       append([]byte{1, 3, 27, 1}, id...),
		"an ID and a place":                 append([]byte{1, 3, 27, 1}, append(id, 0)...),
		"no packs in two bytes":             {128, 0},
		"one pack in two bytes":             {128, 1, 3, 0, 0},
		"a number in two bytes":             {1, 128, 3, 0, 0},
		"a Size in two bytes":               {1, 3, 128, 0, 0},
		"no chunks in two bytes":            {1, 3, 0, 128, 0},
		"a number without an end":           {255},
		"more packs than a number tells":    {255, 255, 255, 255, 127},
		"as many packs as a number tells":   {135, 255, 255, 255, 127},
		"as many chunks as a number tells":  {1, 3, 0, 135, 255, 255, 255, 127},
		"a number as great as a number is":  {1, 135, 255, 255, 255, 127, 0, 0},
		"a number above what a number is":   {1, 136, 128, 128, 128, 0, 0, 0},
		"20,001 chunks, none of them there": {1, 3, 0, 129, 156, 33},
		"501 packs, none of them there":     {131, 117},
	} {
		wantNone(t, what, guarded(b))
	}
	if l, err := index.Read(guarded([]byte{1, 3, 0, 0})); err != api.OK || !same(l, []api.Packed{{Number: 3}}) {
		t.Error(l, err)
	}
}

func TestReadOfWhatHasNoSum(t *testing.T) {
	wantNone(t, "nil", nil)
	for n := range 9 {
		wantNone(t, "noughts", make([]byte, n))
		wantNone(t, "ones", slices.Repeat([]byte{255}, n))
	}
	for _, l := range indexes() {
		wantNone(t, "without a sum", toldBody(l))
		wantNone(t, "with a sum of noughts", append(toldBody(l), 0, 0, 0, 0))
	}
	b := toldBytes(nil)
	slices.Reverse(b[1:])
	wantNone(t, "a sum from its highest byte on", b)
}

// eachBytes calls do with all strings of at most so many of some telling bytes.
func eachBytes(most int, do func(b []byte)) {
	telling := []byte{0, 1, 3, 128, 129}
	var lay func(b []byte)
	lay = func(b []byte) {
		do(b)
		if len(b) < most {
			for _, x := range telling {
				lay(append(b[:len(b):len(b)], x))
			}
		}
	}
	lay(nil)
}

// What is read is written as it was. (P2, P18.5)
func TestWhatIsReadIsWrittenAsItWas(t *testing.T) {
	read := 0
	try := func(b []byte) {
		b = guarded(b)
		l, err := index.Read(b)
		if err == api.ErrBytes && l == nil {
			return
		}
		read++
		again, e := index.Bytes(l)
		if err != api.OK || e != api.OK || !bytes.Equal(b, again) || toldCheck(l) != api.OK {
			t.Fatalf("%v is read as %v, %v, and written as %v, %v", b, l, err, again, e)
		}
	}
	eachBytes(6, func(b []byte) {
		try(b)
		try(append([]byte{2}, b...))
	})
	// One without packs; 6 of a pack whose numbers have one byte each, 9 of two such packs; and some whose numbers have more bytes.
	if read < 17 {
		t.Error(read)
	}
}
