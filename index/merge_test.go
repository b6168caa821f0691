package index_test

import (
	"math"
	"math/rand"
	"slices"
	"testing"

	"satchel/api"
	"satchel/index"
)

// wantMerged says what is merged, and which files are scanned; and that the words say so.
func wantMerged(t *testing.T, what string, l []api.Packed, files []api.Filed, want []api.Packed, scanned ...int) {
	t.Helper()
	got, numbers := index.Merge(l, files)
	if !same(got, want) || !slices.Equal(numbers, scanned) {
		t.Errorf("%s: Merge: %v, scanned %v; want %v, %v", what, got, numbers, want, scanned)
	}
	if told, its := toldMerge(l, files); !same(told, want) || !slices.Equal(its, scanned) {
		t.Errorf("%s: the words say %v, scanned %v; want %v, %v", what, told, its, want, scanned)
	}
}

// scannedAs tells a pack of whole records of these chunks.
func scannedAs(number int, chunks ...[]byte) api.Packed {
	p := api.Packed{Number: number}
	for _, b := range chunks {
		p.L = append(p.L, api.Held{ID: nameOf(b), At: p.Size, Size: len(b)})
		p.Size += len(b) + own
	}
	return p
}

func TestExamplesOfMerge(t *testing.T) {
	p := packOf(3, 1)
	noughts := []api.Filed{{Number: 3, B: make([]byte, 27)}}
	wantMerged(t, "none", nil, noughts, []api.Packed{{Number: 3, Size: 27}}, 3)
	wantMerged(t, "p", []api.Packed{p}, noughts, []api.Packed{p})
}

func TestMergeOfNoFiles(t *testing.T) {
	for _, l := range indexes() {
		wantMerged(t, "nil", l, nil, nil)
		wantMerged(t, "empty", l, []api.Filed{}, nil)
	}
}

// Of no index what is merged is what the files say. (P18.6)
func TestMergeWithNoIndex(t *testing.T) {
	a, b := someBytes(1, 1), someBytes(2, 1024)
	files := []api.Filed{fileOf(t, 1, a, b, a), fileOf(t, 2), fileOf(t, 70, b), fileOf(t, 999999, a)}
	want := []api.Packed{scannedAs(1, a, b, a), {Number: 2}, scannedAs(70, b), scannedAs(999999, a)}
	wantMerged(t, "nil", nil, files, want, 1, 2, 70, 999999)
	wantMerged(t, "empty", []api.Packed{}, files, want, 1, 2, 70, 999999)
	wantMerged(t, "packs without files", []api.Packed{packOf(3, 1), packOf(71)}, files, want, 1, 2, 70, 999999)
}

// Of a file that is torn, or damaged, the good records are told, and how many bytes there are in all.
func TestMergeOfWhatCrashesLeave(t *testing.T) {
	a, b := someBytes(1, 9), someBytes(2, 100)
	f := fileOf(t, 3, a, b)
	for size := range len(f.B) {
		want := api.Packed{Number: 3, Size: size}
		if size >= len(a)+own {
			want.L = scannedAs(3, a).L
		}
		wantMerged(t, "cut short", nil, []api.Filed{{Number: 3, B: f.B[:size]}}, []api.Packed{want}, 3)
	}
	f.B[30] ^= 1
	want := scannedAs(3, a, b)
	want.L = want.L[1:]
	wantMerged(t, "a body turned", nil, []api.Filed{f}, []api.Packed{want}, 3)
	f.B[0] ^= 1
	want.L = nil
	wantMerged(t, "a head turned", nil, []api.Filed{f}, []api.Packed{want}, 3)
}

// A pack of an index counts for a file just if it has the file's number and Size; what is in either is no matter.
func TestMergeOfKnownOnes(t *testing.T) {
	a := someBytes(1, 74)
	f := fileOf(t, 3, a)
	fresh := scannedAs(3, a)
	known := api.Packed{Number: 3, Size: 100, L: []api.Held{{ID: idOf(7), At: 20, Size: 5}}}
	wantMerged(t, "known", []api.Packed{known}, []api.Filed{f}, []api.Packed{known})
	for _, size := range []int{-1, 0, 99, 101, 65536, 65537} {
		other := known
		other.Size = size
		wantMerged(t, "another Size", []api.Packed{other}, []api.Filed{f}, []api.Packed{fresh}, 3)
	}
	for _, n := range []int{-3, 0, 2, 4, 999999, 1000000} {
		other := known
		other.Number = n
		wantMerged(t, "another number", []api.Packed{other}, []api.Filed{f}, []api.Packed{fresh}, 3)
		wantMerged(t, "another number ahead", []api.Packed{other, known}, []api.Filed{f}, []api.Packed{known})
	}
	empty := api.Packed{Number: 3, Size: 100}
	wantMerged(t, "known without chunks", []api.Packed{empty}, []api.Filed{f}, []api.Packed{empty})
	none := api.Packed{Number: 3, L: []api.Held{{ID: idOf(7), At: 20, Size: 5}}}
	wantMerged(t, "known of a file without bytes", []api.Packed{none}, []api.Filed{{Number: 3}}, []api.Packed{none})
}

// Of several packs of a file's number and Size the first counts, whether the index may be or not.
func TestMergeOfSeveralThatAreKnown(t *testing.T) {
	a, b := packOf(3, 1), packOf(3, 1)
	b.L[0].ID = idOf(1)
	small := packOf(3)
	file := []api.Filed{{Number: 3, B: make([]byte, 27)}}
	wantMerged(t, "two", []api.Packed{a, b}, file, []api.Packed{a})
	wantMerged(t, "the other one first", []api.Packed{b, a}, file, []api.Packed{b})
	wantMerged(t, "others ahead", []api.Packed{packOf(9), small, b, a, packOf(1)}, file, []api.Packed{b})
}

func TestMergeOfFilesInNoOrder(t *testing.T) {
	var files []api.Filed
	for _, n := range []int{5, 3, 7, 7, 6, 8, 1, 8, 9} {
		files = append(files, fileOf(t, n, []byte{byte(n)}))
	}
	want := []api.Packed{scannedAs(5, []byte{5}), scannedAs(7, []byte{7}), scannedAs(8, []byte{8}), scannedAs(9, []byte{9})}
	wantMerged(t, "none known", nil, files, want, 5, 7, 8, 9)
	known := []api.Packed{packOf(3, 1), packOf(7, 1), packOf(8, 1)}
	want[1], want[2] = known[1], known[2]
	wantMerged(t, "some known", known, files, want, 5, 9)
	slices.Reverse(known)
	wantMerged(t, "some known, in no order", known, files, want, 5, 9)
}

func TestMergeOfAFileTwice(t *testing.T) {
	a, b := fileOf(t, 3, []byte{1}), fileOf(t, 3, []byte{2}, []byte{3})
	known := packOf(3, 1, 1)
	wantMerged(t, "the same", nil, []api.Filed{a, a}, []api.Packed{scannedAs(3, []byte{1})}, 3)
	wantMerged(t, "the first counts", nil, []api.Filed{a, b}, []api.Packed{scannedAs(3, []byte{1})}, 3)
	wantMerged(t, "the first counts", nil, []api.Filed{b, a}, []api.Packed{scannedAs(3, []byte{2}, []byte{3})}, 3)
	wantMerged(t, "the second one is known", []api.Packed{known}, []api.Filed{a, b}, []api.Packed{scannedAs(3, []byte{1})}, 3)
	wantMerged(t, "the first one is known", []api.Packed{known}, []api.Filed{b, a}, []api.Packed{known})
}

// A number that no pack has is passed over, and does not keep those behind it from being merged.
func TestMergeOfNumbersThatMayNotBe(t *testing.T) {
	for _, n := range []int{math.MinInt, -3, -1, 0, 1000000, 1 << 32, 1<<32 + 3, math.MaxInt} {
		known := packOf(n, 1)
		files := []api.Filed{{Number: n, B: make([]byte, 27)}}
		wantMerged(t, "alone", []api.Packed{known}, files, nil)
		files = []api.Filed{files[0], {Number: 1}, files[0], {Number: 999999}, files[0]}
		wantMerged(t, "among others", []api.Packed{known}, files, []api.Packed{{Number: 1}, {Number: 999999}}, 1, 999999)
	}
}

// How long a file is, and how many there are, is no matter.
func TestMergeOfMuch(t *testing.T) {
	long := api.Filed{Number: 3, B: make([]byte, 65537)}
	wantMerged(t, "a long file", nil, []api.Filed{long}, []api.Packed{{Number: 3, Size: 65537}}, 3)
	known := api.Packed{Number: 3, Size: 65537, L: make([]api.Held, 3)}
	wantMerged(t, "a long file that is known", []api.Packed{known}, []api.Filed{long}, []api.Packed{known})
	var files []api.Filed
	var numbers []int
	for n := 1; n <= 100000; n++ {
		files = append(files, api.Filed{Number: n})
		numbers = append(numbers, n)
	}
	l, scanned := index.Merge(nil, files)
	if len(l) != 100000 || !slices.Equal(scanned, numbers) {
		t.Error(len(l), len(scanned))
	}
	again, scanned := index.Merge(l, files)
	if !same(again, l) || len(scanned) != 0 {
		t.Error(len(again), len(scanned))
	}
}

// Merged again with the same files it is the same, and nothing is scanned; a pack that is gone is gone. (P18.6)
func TestMergeAgain(t *testing.T) {
	r := rand.New(rand.NewSource(8))
	for range 300 {
		files := someFiles(t, r)
		l, _ := index.Merge(nil, files)
		again, scanned := index.Merge(l, files)
		if !same(again, l) || len(scanned) != 0 {
			t.Fatalf("again: %v, scanned %v; want %v", again, scanned, l)
		}
		if len(l) == 0 {
			continue
		}
		gone := l[r.Intn(len(l))].Number
		files = slices.DeleteFunc(files, func(f api.Filed) bool { return f.Number == gone })
		without, scanned := index.Merge(l, files)
		fresh, _ := index.Merge(nil, files)
		if !same(without, fresh) || slices.Contains(scanned, gone) || slices.ContainsFunc(without, func(p api.Packed) bool { return p.Number == gone }) {
			t.Fatalf("without %d: %v, scanned %v; want %v", gone, without, scanned, fresh)
		}
	}
}

// A file that grew is scanned anew, and the others are not.
func TestMergeOfOneThatGrew(t *testing.T) {
	files := []api.Filed{fileOf(t, 1, []byte{1}), fileOf(t, 2, []byte{2}), fileOf(t, 3, []byte{3})}
	l, _ := index.Merge(nil, files)
	files[1] = fileOf(t, 2, []byte{2}, []byte{4})
	want := []api.Packed{scannedAs(1, []byte{1}), scannedAs(2, []byte{2}, []byte{4}), scannedAs(3, []byte{3})}
	wantMerged(t, "grown", l, files, want, 2)
}

// What is merged of files that a store may have is an index that may be.
func TestWhatIsMergedMayBe(t *testing.T) {
	r := rand.New(rand.NewSource(9))
	for range 300 {
		l, _ := index.Merge(nil, someFiles(t, r))
		wantThereAndBack(t, "merged", l)
	}
}

// someFiles tells some packs' files by rising numbers, each whole, torn or turned.
func someFiles(t *testing.T, r *rand.Rand) []api.Filed {
	var files []api.Filed
	for n := range 1 + r.Intn(6) {
		var chunks [][]byte
		for range r.Intn(5) {
			chunks = append(chunks, someBytes(r.Int63(), 1+r.Intn(60)))
		}
		f := fileOf(t, 1+10*n+r.Intn(10), chunks...)
		if len(f.B) > 0 {
			f.B[r.Intn(len(f.B))] ^= byte(r.Intn(2))
			f.B = f.B[:len(f.B)-r.Intn(2)*r.Intn(len(f.B))]
		}
		files = append(files, f)
	}
	return files
}

func TestMergeOfWhateverFiles(t *testing.T) {
	r := rand.New(rand.NewSource(10))
	for range 2000 {
		files := someFiles(t, r)
		l, _ := index.Merge(nil, files)
		for i := range l {
			if r.Intn(2) == 0 {
				l[i].Size += r.Intn(2)
				l[i].L = packOf(l[i].Number, 1, 2).L
			}
		}
		r.Shuffle(len(l), func(i, k int) { l[i], l[k] = l[k], l[i] })
		l = append(l, l...)
		files = append(files, files...)
		r.Shuffle(len(files), func(i, k int) { files[i], files[k] = files[k], files[i] })
		want, scanned := toldMerge(l, files)
		wantMerged(t, "whatever", l, files, want, scanned...)
	}
}
