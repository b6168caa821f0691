package index_test

import (
	"math"
	"math/rand"
	"slices"
	"testing"

	"satchel/api"
	"satchel/index"
)

// wantCheck says whether an index may be; of one that may not, Bytes tells the same error, and nothing else.
func wantCheck(t *testing.T, what string, l []api.Packed, want api.Errno) {
	t.Helper()
	if err := index.Check(l); err != want {
		t.Errorf("%s: Check: %v; want %v", what, err, want)
	}
	if told := toldCheck(l); told != want {
		t.Errorf("%s: the words say %v; want %v", what, told, want)
	}
	if b, err := index.Bytes(l); err != want || (b == nil) != (want != api.OK) {
		t.Errorf("%s: Bytes: %d bytes, %v; want %v", what, len(b), err, want)
	}
}

// wantPack says whether a pack may be: alone, and behind others, and ahead of others.
func wantPack(t *testing.T, what string, p api.Packed, want api.Errno) {
	t.Helper()
	wantCheck(t, what, []api.Packed{p}, want)
	if between(3, p.Number, 999997) || want == api.ErrRange {
		wantCheck(t, what+", behind others", []api.Packed{packOf(1, 1), packOf(2), p}, want)
		wantCheck(t, what+", ahead of others", []api.Packed{p, packOf(999998, 5, 5), packOf(999999)}, want)
	}
}

// wantChunk says whether a chunk may be in a pack of this Size: alone, behind another one, and ahead of another one.
func wantChunk(t *testing.T, what string, size int, h api.Held, want api.Errno) {
	t.Helper()
	wantPack(t, what, api.Packed{Number: 5, Size: size, L: []api.Held{h}}, want)
	if h.At >= 27 || want == api.ErrRange {
		wantPack(t, what+", behind another one", api.Packed{Number: 5, Size: size, L: []api.Held{{At: 0, Size: 1}, h}}, want)
	}
}

func TestExamplesOfCheck(t *testing.T) {
	p := packOf(3, 1)
	small, none := p, p
	small.Size, none.Number = 26, 0
	wantCheck(t, "p", []api.Packed{p}, api.OK)
	wantCheck(t, "p p", []api.Packed{p, p}, api.ErrArg)
	wantCheck(t, "p with Size 26", []api.Packed{small}, api.ErrArg)
	wantCheck(t, "p with number 0", []api.Packed{none}, api.ErrRange)
}

func TestCheckOfThoseThatMayBe(t *testing.T) {
	for _, l := range indexes() {
		wantCheck(t, "one that may be", l, api.OK)
	}
	wantCheck(t, "empty", []api.Packed{}, api.OK)
	wantCheck(t, "a pack with an empty list", []api.Packed{{Number: 1, L: []api.Held{}}}, api.OK)
}

func TestCheckOfHowManyPacks(t *testing.T) {
	for packs, want := range map[int]api.Errno{0: api.OK, 1: api.OK, 2: api.OK, 499: api.OK, 500: api.OK, 501: api.ErrLong, 502: api.ErrLong, 1000: api.ErrLong} {
		wantCheck(t, "packs without chunks", manyOf(packs, 0), want)
	}
	wantCheck(t, "501 packs of nothing", make([]api.Packed, 501), api.ErrLong)
	wantCheck(t, "500 packs of nothing", make([]api.Packed, 500), api.ErrRange)
}

func TestCheckOfHowManyChunks(t *testing.T) {
	for _, packs := range []int{9, 10, 20, 499, 500} {
		wantCheck(t, "19,999 chunks", manyOf(packs, 19999), api.OK)
		wantCheck(t, "20,000 chunks", manyOf(packs, 20000), api.OK)
		wantCheck(t, "20,001 chunks", manyOf(packs, 20001), api.ErrLong)
		wantCheck(t, "20,002 chunks", manyOf(packs, 20002), api.ErrLong)
	}
	wantCheck(t, "20,000 in one", []api.Packed{{Number: 1, L: make([]api.Held, 20000)}}, api.ErrRange)
	wantCheck(t, "20,001 in one", []api.Packed{{Number: 1, L: make([]api.Held, 20001)}}, api.ErrLong)
	first, last := manyOf(500, 0), manyOf(500, 0)
	first[0].L, last[499].L = make([]api.Held, 20001), make([]api.Held, 20001)
	wantCheck(t, "20,001 in the first", first, api.ErrLong)
	wantCheck(t, "20,001 in the last", last, api.ErrLong)
	wantCheck(t, "very many", slices.Repeat([]api.Packed{{Number: 1, L: make([]api.Held, 20000)}}, 500), api.ErrLong)
}

func TestCheckOfNumbers(t *testing.T) {
	for n, want := range map[int]api.Errno{math.MinInt: api.ErrRange, -999999: api.ErrRange, -1: api.ErrRange, 0: api.ErrRange, 1: api.OK, 2: api.OK, 3: api.OK, 500: api.OK, 501: api.OK, 999998: api.OK, 999999: api.OK, 1000000: api.ErrRange, 1 << 31: api.ErrRange, 1<<32 + 1: api.ErrRange, math.MaxInt: api.ErrRange} {
		wantPack(t, "a number", packOf(n, 1, 2), want)
		wantPack(t, "a number of an empty pack", packOf(n), want)
	}
}

func TestCheckOfNumbersThatDoNotRise(t *testing.T) {
	for _, x := range []struct {
		numbers []int
		want    api.Errno
	}{
		{[]int{1, 2}, api.OK}, {[]int{1, 1}, api.ErrArg}, {[]int{2, 1}, api.ErrArg}, {[]int{999999, 999999}, api.ErrArg}, {[]int{1, 999999}, api.OK}, {[]int{999999, 1}, api.ErrArg},
		{[]int{1, 3, 2}, api.ErrArg}, {[]int{1, 3, 3}, api.ErrArg}, {[]int{2, 1, 3}, api.ErrArg}, {[]int{1, 2, 3}, api.OK}, {[]int{1, 2, 1, 3}, api.ErrArg}, {[]int{2, 3, 1}, api.ErrArg},
	} {
		var full, empty []api.Packed
		for _, n := range x.numbers {
			full = append(full, packOf(n, 1, 1))
			empty = append(empty, packOf(n))
		}
		wantCheck(t, "full packs", full, x.want)
		wantCheck(t, "empty packs", empty, x.want)
	}
}

func TestCheckOfSizesOfPacks(t *testing.T) {
	for size, want := range map[int]api.Errno{math.MinInt: api.ErrRange, -65536: api.ErrRange, -1: api.ErrRange, 0: api.OK, 1: api.OK, 26: api.OK, 65535: api.OK, 65536: api.OK, 65537: api.ErrRange, 1 << 31: api.ErrRange, 1 << 32: api.ErrRange, math.MaxInt: api.ErrRange} {
		wantPack(t, "a Size", api.Packed{Number: 5, Size: size}, want)
	}
}

func TestCheckOfSizesOfChunks(t *testing.T) {
	for size, want := range map[int]api.Errno{math.MinInt: api.ErrRange, -26: api.ErrRange, -1: api.ErrRange, 0: api.ErrRange, 1: api.OK, 2: api.OK, 63: api.OK, 64: api.OK, 1023: api.OK, 1024: api.OK, 1025: api.ErrRange, 65510: api.ErrRange, 1 << 32: api.ErrRange, 1<<32 + 1: api.ErrRange, math.MaxInt: api.ErrRange} {
		wantChunk(t, "a Size", 65536, api.Held{At: 27, Size: size}, want)
		if want != api.OK {
			wantChunk(t, "a Size in a small pack", 26, api.Held{Size: size}, want)
		}
	}
}

func TestCheckOfPlaces(t *testing.T) {
	for at, want := range map[int]api.Errno{math.MinInt: api.ErrRange, math.MinInt + 27: api.ErrRange, -65536: api.ErrRange, -27: api.ErrRange, -1: api.ErrRange, 0: api.OK, 1: api.OK, 27: api.OK, 100: api.OK} {
		wantChunk(t, "a place", 200, api.Held{At: at, Size: 1}, want)
	}
	for _, at := range []int{200, 65536, 65537, math.MaxInt32, math.MaxInt32 + 1, 1 << 32, math.MaxInt - 1050, math.MaxInt - 27, math.MaxInt - 26, math.MaxInt - 1, math.MaxInt} {
		for _, size := range []int{1, 2, 1024} {
			wantChunk(t, "a place far behind", 200, api.Held{At: at, Size: size}, api.ErrArg)
		}
	}
}

// Each record may end where its pack does, and not one byte behind that.
func TestCheckOfWhereRecordsEnd(t *testing.T) {
	for _, n := range []int{1, 2, 100, 1023, 1024} {
		record := n + own
		for _, size := range []int{record, record + 27, 5000, 65535, 65536} {
			wantChunk(t, "right at the end", size, api.Held{At: size - record, Size: n}, api.OK)
			wantChunk(t, "one byte behind", size, api.Held{At: size - record + 1, Size: n}, api.ErrArg)
			if size > record {
				wantChunk(t, "one byte ahead", size, api.Held{At: size - record - 1, Size: n}, toldCheck([]api.Packed{{Number: 5, Size: size, L: []api.Held{{At: size - record - 1, Size: n}}}}))
			}
		}
		for size := range record {
			wantCheck(t, "a pack that is too small", []api.Packed{{Number: 5, Size: size, L: []api.Held{{Size: n}}}}, api.ErrArg)
		}
	}
}

// Each record may begin where the one ahead of it ends, and not one byte ahead of that.
func TestCheckOfWhereRecordsBegin(t *testing.T) {
	for _, n := range []int{1, 2, 1024} {
		for _, gap := range []int{0, 1, 5} {
			begin := gap + n + own
			for d, want := range map[int]api.Errno{-begin: api.ErrArg, -n - own: api.ErrArg, -own: api.ErrArg, -1: api.ErrArg, 0: api.OK, 1: api.OK, 300: api.OK} {
				two := []api.Held{{At: gap, Size: n}, {At: begin + d, Size: 3}}
				wantPack(t, "the second of two", api.Packed{Number: 5, Size: 65536, L: two}, want)
				three := []api.Held{{At: 0, Size: 1}, {At: 27 + gap, Size: n}, {At: 27 + begin + d, Size: 3}}
				wantPack(t, "the third of three", api.Packed{Number: 5, Size: 65536, L: three}, want)
			}
		}
	}
	a, b := api.Held{At: 0, Size: 9}, api.Held{At: 100, Size: 9}
	wantPack(t, "in order", api.Packed{Number: 5, Size: 500, L: []api.Held{a, b}}, api.OK)
	wantPack(t, "the other way round", api.Packed{Number: 5, Size: 500, L: []api.Held{b, a}}, api.ErrArg)
	wantPack(t, "the same one twice", api.Packed{Number: 5, Size: 500, L: []api.Held{a, a}}, api.ErrArg)
}

// Each pack is looked at by itself: its chunks begin anew, and end where its own Size says.
func TestCheckLooksAtEachPackByItself(t *testing.T) {
	wantCheck(t, "the same places", []api.Packed{packOf(1, 9, 9), packOf(2, 9, 9), packOf(3, 9)}, api.OK)
	great, small := packOf(1, 1024, 1024), packOf(2, 1)
	small.Size = 26
	wantCheck(t, "a small one behind a great one", []api.Packed{great, small}, api.ErrArg)
	small.Number, great.Number = 1, 2
	wantCheck(t, "a small one ahead of a great one", []api.Packed{small, great}, api.ErrArg)
}

// IDs are no matter: all alike, or none.
func TestCheckOfIDsThatAreAlike(t *testing.T) {
	p := packOf(3, 1, 1, 1, 1)
	for i := range p.L {
		p.L[i].ID = api.ID{}
	}
	q := p
	q.Number = 4
	wantCheck(t, "no IDs", []api.Packed{p, q}, api.OK)
}

// Of several errors the one that is named first is told, wherever they stand.
func TestCheckOfTheOrderOfErrors(t *testing.T) {
	number, size, chunk, place := packOf(0, 1), packOf(3), packOf(3, 1), packOf(3, 1)
	size.Size = 65537
	chunk.L[0].Size = 0
	place.L[0].At = -1
	ranges := []api.Packed{number, size, chunk, place}
	short, over := packOf(7, 1), packOf(7, 1, 1)
	short.Size = 26
	over.L[1].At = 26
	args := [][]api.Packed{{short}, {over}, {packOf(7), packOf(7)}, {packOf(8), packOf(7)}}
	for _, x := range ranges {
		for _, l := range args {
			wantCheck(t, "a bound behind", append(slices.Clone(l), x), api.ErrRange)
			wantCheck(t, "a bound ahead", append([]api.Packed{x}, l...), api.ErrRange)
		}
		wantCheck(t, "too many packs, and a bound", append(manyOf(500, 0), x), api.ErrLong)
		wantCheck(t, "too many packs, and a bound ahead", append([]api.Packed{x}, manyOf(500, 0)...), api.ErrLong)
		wantCheck(t, "too many chunks, and a bound", append([]api.Packed{x}, manyOf(499, 20001)...), api.ErrLong)
	}
	for _, l := range args {
		wantCheck(t, "too many packs, and another error", append(l, manyOf(500, 0)...), api.ErrLong)
		wantCheck(t, "too many chunks, and another error", append(l, manyOf(400, 20001)...), api.ErrLong)
	}
	both := api.Packed{Number: 7, Size: 26, L: []api.Held{{At: 5, Size: 1}, {At: -1, Size: 1}}}
	wantCheck(t, "a bound behind in one pack", []api.Packed{both}, api.ErrRange)
}

// anIndex tells an index that may be.
func anIndex(r *rand.Rand) []api.Packed {
	var l []api.Packed
	number := 0
	for range r.Intn(6) {
		number += 1 + r.Intn(200)
		p := api.Packed{Number: number}
		for range r.Intn(6) {
			n := 1 + r.Intn(1024)
			at := p.Size + r.Intn(2)*r.Intn(30)
			p.L = append(p.L, api.Held{ID: idOf(r.Intn(8)), At: at, Size: n})
			p.Size = at + n + own
		}
		p.Size += r.Intn(2) * r.Intn(30)
		l = append(l, p)
	}
	return l
}

// spoilt tells an index that may not be, maybe: one number of it is another one.
func spoilt(r *rand.Rand, l []api.Packed) []api.Packed {
	l = copied(l)
	var numbers []*int
	for i := range l {
		numbers = append(numbers, &l[i].Number, &l[i].Size)
		for k := range l[i].L {
			numbers = append(numbers, &l[i].L[k].At, &l[i].L[k].Size)
		}
	}
	if len(numbers) > 0 {
		x := numbers[r.Intn(len(numbers))]
		edges := []int{*x - 1, *x + 1, *x - 27, *x + 27, 0, 1, 1024, 1025, 65536, 65537, 999999, 1000000, api.MaxID}
		*x = edges[r.Intn(len(edges))]
	}
	return l
}

func TestCheckOfWhateverIndexes(t *testing.T) {
	r := rand.New(rand.NewSource(18))
	told := map[api.Errno]int{}
	for range 20000 {
		l := anIndex(r)
		wantCheck(t, "one that may be", l, api.OK)
		l = spoilt(r, l)
		want := toldCheck(l)
		told[want]++
		wantCheck(t, "one with another number", l, want)
	}
	for _, err := range []api.Errno{api.OK, api.ErrRange, api.ErrArg} {
		if told[err] < 1000 {
			t.Errorf("%v: %d", err, told[err])
		}
	}
}
