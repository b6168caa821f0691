package index_test

import (
	"crypto/sha256"
	"fmt"
	"hash/crc32"
	"math/rand"
	"regexp"
	"slices"
	"strconv"
	"testing"

	"satchel/api"
	"satchel/pack"
)

// own is how many bytes a record has beside its chunk's.
const own = 26

// nameOf tells the ID of a chunk in another way than the program.
func nameOf(b []byte) api.ID {
	sum := sha256.Sum256(b)
	return api.ID(sum[:16])
}

// idOf tells an ID that differs with the number.
func idOf(n int) api.ID { return nameOf([]byte(strconv.Itoa(n))) }

// packOf tells a pack of chunks of these sizes, one right behind the other, and just as long as they are.
func packOf(number int, sizes ...int) api.Packed {
	p := api.Packed{Number: number}
	for i, n := range sizes {
		p.L = append(p.L, api.Held{ID: idOf(1000*number + i), At: p.Size, Size: n})
		p.Size += n + own
	}
	return p
}

// manyOf tells an index of so many packs, the first of which have one chunk more each than the others have, so that there are so many chunks in all.
func manyOf(packs, chunks int) []api.Packed {
	var l []api.Packed
	for i := range packs {
		n := chunks / packs
		if i < chunks%packs {
			n++
		}
		l = append(l, packOf(i+1, slices.Repeat([]int{1}, n)...))
	}
	return l
}

// copied tells the same index in memory of its own.
func copied(l []api.Packed) []api.Packed {
	l = slices.Clone(l)
	for i := range l {
		l[i].L = slices.Clone(l[i].L)
	}
	return l
}

func samePack(a, b api.Packed) bool {
	return a.Number == b.Number && a.Size == b.Size && slices.Equal(a.L, b.L)
}

func same(a, b []api.Packed) bool { return slices.EqualFunc(a, b, samePack) }

// toldName and toldParse tell names as the document's words say it.
func toldName(n int) string {
	if n < 1 || n > 999999 {
		return ""
	}
	return fmt.Sprintf("pack/%06d", n)
}

var named = regexp.MustCompile(`\Apack/[0-9]{6}\z`)

func toldParse(name string) (int, bool) {
	if !named.MatchString(name) {
		return 0, false
	}
	n, _ := strconv.Atoi(name[5:])
	return n, n > 0
}

func between(low, n, high int) bool { return low <= n && n <= high }

// endOf tells where a record ends, whose place is from 0 on.
func endOf(h api.Held) uint64 { return uint64(h.At) + uint64(h.Size) + own }

// toldCheck tells whether an index may be as the document's words say it.
func toldCheck(l []api.Packed) api.Errno {
	chunks, bounded, fits := 0, true, true
	for i, p := range l {
		chunks += len(p.L)
		bounded = bounded && between(1, p.Number, 999999) && between(0, p.Size, 65536)
		fits = fits && (i == 0 || l[i-1].Number < p.Number)
		for k, h := range p.L {
			bounded = bounded && between(1, h.Size, 1024) && h.At >= 0
			fits = fits && endOf(h) <= uint64(p.Size) && (k == 0 || endOf(p.L[k-1]) <= uint64(h.At))
		}
	}
	switch {
	case len(l) > 500 || chunks > 20000:
		return api.ErrLong
	case !bounded:
		return api.ErrRange
	case !fits:
		return api.ErrArg
	}
	return api.OK
}

// toldNumber tells a number's bytes in another way than the program.
func toldNumber(n int) []byte {
	b := []byte{byte(n % 128)}
	for n /= 128; n > 0; n /= 128 {
		b = append([]byte{byte(n%128) + 128}, b...)
	}
	return b
}

// guarded tells bytes with their sum behind them, in another way than the program.
func guarded(b []byte) []byte {
	sum := crc32.ChecksumIEEE(b)
	return append(slices.Clone(b), byte(sum), byte(sum>>8), byte(sum>>16), byte(sum>>24))
}

// toldBody tells the bytes of an index as the document's words say it, without their sum; it may be or not, but its numbers are.
func toldBody(l []api.Packed) []byte {
	b := toldNumber(len(l))
	for _, p := range l {
		b = slices.Concat(b, toldNumber(p.Number), toldNumber(p.Size), toldNumber(len(p.L)))
		for _, h := range p.L {
			b = append(b, h.ID[:]...)
			b = append(b, toldNumber(h.At)...)
			b = append(b, toldNumber(h.Size)...)
		}
	}
	return b
}

func toldBytes(l []api.Packed) []byte { return guarded(toldBody(l)) }

// toldFind goes through all places from the front, the last one of which counts.
func toldFind(l []api.Packed, id api.ID) (number int, last api.Held, is bool) {
	for _, p := range l {
		for _, h := range p.L {
			if h.ID == id {
				number, last, is = p.Number, h, true
			}
		}
	}
	return number, last, is
}

func toldIDs(l []api.Packed) []api.ID {
	var ids []api.ID
	for _, p := range l {
		for _, h := range p.L {
			if !slices.Contains(ids, h.ID) {
				ids = append(ids, h.ID)
			}
		}
	}
	return ids
}

// toldMerge tells what is merged as the document's words say it.
func toldMerge(l []api.Packed, files []api.Filed) ([]api.Packed, []int) {
	var merged []api.Packed
	var scanned []int
	for _, f := range files {
		passed := f.Number < 1 || f.Number > 999999 || len(merged) > 0 && f.Number <= merged[len(merged)-1].Number
		if passed {
			continue
		}
		at := slices.IndexFunc(l, func(p api.Packed) bool { return p.Number == f.Number && p.Size == len(f.B) })
		if at >= 0 {
			merged = append(merged, l[at])
			continue
		}
		held, _, _, _ := pack.Scan(f.B)
		merged = append(merged, api.Packed{Number: f.Number, Size: len(f.B), L: held})
		scanned = append(scanned, f.Number)
	}
	return merged, scanned
}

// someBytes tells so many bytes that differ with the seed.
func someBytes(seed int64, n int) []byte {
	b := make([]byte, n)
	rand.New(rand.NewSource(seed)).Read(b)
	return b
}

// fileOf tells a pack's file with the records of these chunks, as pack.Put tells them.
func fileOf(t *testing.T, number int, chunks ...[]byte) api.Filed {
	t.Helper()
	f := api.Filed{Number: number}
	for _, chunk := range chunks {
		r, _, err := pack.Put(chunk)
		if err != api.OK {
			t.Fatal(err)
		}
		f.B = append(f.B, r...)
	}
	return f
}

// indexes tells some that may be, the edges among them.
func indexes() []([]api.Packed) {
	far := api.Packed{Number: 999999, Size: 65536, L: []api.Held{{ID: idOf(1), At: 0, Size: 1}, {ID: idOf(1), At: 64486, Size: 1024}}}
	return [][]api.Packed{
		nil, {packOf(1)}, {packOf(3, 1)}, {packOf(1, 1), packOf(999999, 1024)}, {far}, {packOf(1), far},
		{{Number: 5, Size: 65536}}, {{Number: 1}, {Number: 2}, {Number: 127}, {Number: 128}, {Number: 16383}, {Number: 16384}},
		{packOf(2, 1, 2, 63, 64, 100, 101, 102, 127, 128, 1023, 1024), packOf(7), packOf(200, 1024, 1024, 1)},
		{{Number: 4, Size: 300, L: []api.Held{{At: 3, Size: 1}, {At: 40, Size: 2}, {At: 68, Size: 100}}}},
		manyOf(1, 2427), manyOf(500, 0), manyOf(500, 500), manyOf(500, 20000), manyOf(9, 20000),
	}
}
