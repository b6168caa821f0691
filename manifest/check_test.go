package manifest_test

import (
	"math"
	"strconv"
	"strings"
	"testing"

	"satchel/api"
	"satchel/manifest"
)

// wantCheck says what is wrong with a manifest, and with which item.
func wantCheck(t *testing.T, what string, m api.Manifest, want api.Errno, wantAt int) {
	t.Helper()
	if err, at := manifest.Check(m); err != want || at != wantAt {
		t.Errorf("Check of %.100q: %v at %d; want %v at %d", what, err, at, want, wantAt)
	}
}

// wantAlone says what is wrong with an item that stands alone, and with one behind others.
func wantAlone(t *testing.T, what string, x api.Item, want api.Errno) {
	t.Helper()
	wantCheck(t, what, of(x), want, 0)
	at := 0
	if want != api.OK {
		at = 2
	}
	wantCheck(t, what+" behind others", of(dirItem("!"), fileItem("!/a", 1, 1), x), want, at)
}

// wide tells so many items.
func wide(n int) []api.Item {
	var l []api.Item
	for i := range n {
		l = append(l, fileItem("f"+strconv.Itoa(1000+i), 1, 1))
	}
	return l
}

func TestCheckOfNumbers(t *testing.T) {
	set := []func(m *api.Manifest, n int){
		func(m *api.Manifest, n int) { m.Client = n },
		func(m *api.Manifest, n int) { m.Command = n },
		func(m *api.Manifest, n int) { m.Number = n },
		func(m *api.Manifest, n int) { m.Tick = n },
	}
	for i, low := range []int{1, 1, 0, 0} {
		for _, n := range []int{math.MinInt, -api.MaxID, -1, 0, 1, 2, api.MaxID - 1, api.MaxID, api.MaxID + 1, 1 << 32, 1<<32 + 1, math.MaxInt} {
			m := of(dirItem("a"))
			set[i](&m, n)
			want := api.OK
			if n < low || n > 2147483647 {
				want = api.ErrRange
			}
			wantCheck(t, "number "+strconv.Itoa(i)+": "+strconv.Itoa(n), m, want, 0)
			m.Items = wide(201)
			if want == api.OK {
				want = api.ErrLong
			}
			wantCheck(t, "that, and 201 items", m, want, 0)
			m.Items = []api.Item{dirItem("a"), {}}
			at := 0
			if want == api.ErrLong {
				want, at = api.ErrBytes, 1
			}
			wantCheck(t, "that, and an item of no path", m, want, at)
		}
	}
	wantCheck(t, "nothing at all", api.Manifest{}, api.ErrRange, 0)
}

func TestCheckOfHowManyItems(t *testing.T) {
	for _, n := range []int{0, 1, 199, 200} {
		wantCheck(t, "many", of(wide(n)...), api.OK, 0)
	}
	wantCheck(t, "none, but not nil", api.Manifest{Client: 1, Command: 1, Items: []api.Item{}}, api.OK, 0)
	wantCheck(t, "201", of(wide(201)...), api.ErrLong, 0)
	wantCheck(t, "500", of(wide(500)...), api.ErrLong, 0)
	wantCheck(t, "201 of no path", of(make([]api.Item, 201)...), api.ErrLong, 0)
	wantCheck(t, "200 of no path", of(make([]api.Item, 200)...), api.ErrBytes, 0)
	wantCheck(t, "200, the last of which is not behind", of(append(wide(199), fileItem("f", 1, 1))...), api.ErrThere, 199)
	wantCheck(t, "200, the last of which has too few chunks", of(append(wide(199), fileItem("g", 1, 0))...), api.ErrRange, 199)
}

func TestCheckOfPaths(t *testing.T) {
	for _, s := range []string{"", "/", "a/", "a//b", ".", "..", "b/../a", "a b", "\x00", "é", strings.Repeat("a", 61), strings.Repeat("a/", 20) + "a", strings.Repeat("a", 201)} {
		wantAlone(t, s, dirItem(s), api.ErrBytes)
		wantAlone(t, s, fileItem(s, 0, 0), api.ErrBytes)
		wantAlone(t, s, linkItem(s, "a"), api.ErrBytes)
	}
	for _, s := range []string{"a", "...", "~", "a!", strings.Repeat("a", 60)} {
		wantAlone(t, s, dirItem(s), api.OK)
	}
}

func TestCheckOfKindsModesAndTo(t *testing.T) {
	for _, kind := range []int{math.MinInt, -1, 0, 4, 5, 257, 1 << 32, 1<<32 + 1, math.MaxInt} {
		wantAlone(t, "a kind", api.Item{Path: "a", Kind: kind}, api.ErrArg)
		wantAlone(t, "a kind with all", api.Item{Path: "a", Kind: kind, Size: 1, Chunks: ids(1), To: "b"}, api.ErrArg)
	}
	for mode, want := range map[int]api.Errno{math.MinInt: api.ErrArg, -512: api.ErrArg, -1: api.ErrArg, 0: api.OK, 1: api.OK, 510: api.OK, 511: api.OK, 512: api.ErrArg, 1 << 32: api.ErrArg, math.MaxInt: api.ErrArg} {
		wantAlone(t, "a directory's mode", api.Item{Path: "a", Kind: 1, Mode: mode}, want)
		wantAlone(t, "a file's mode", api.Item{Path: "a", Kind: 2, Mode: mode}, want)
		wantAlone(t, "a link's mode", api.Item{Path: "a", Kind: 3, Mode: mode, To: "b"}, want)
	}
	for size, want := range map[int]api.Errno{0: api.ErrArg, 1: api.OK, 199: api.OK, 200: api.OK, 201: api.ErrArg, 1 << 16: api.ErrArg} {
		to := strings.Repeat("/", size)
		wantAlone(t, "a link's To", linkItem("a", to), want)
		if size > 0 {
			wantAlone(t, "a directory's To", api.Item{Path: "a", Kind: 1, To: to}, api.ErrArg)
			wantAlone(t, "a file's To", api.Item{Path: "a", Kind: 2, Size: 1, Chunks: ids(1), To: to}, api.ErrArg)
		}
	}
}

func TestCheckOfSizes(t *testing.T) {
	for _, x := range []struct {
		size, fewest, most int
	}{
		{0, 0, 0}, {1, 1, 1}, {63, 1, 1}, {64, 1, 1}, {65, 1, 2}, {128, 1, 2}, {129, 1, 3}, {1023, 1, 16}, {1024, 1, 16}, {1025, 2, 17}, {2048, 2, 32}, {2049, 3, 33}, {100000, 98, 1563}, {1048575, 1024, 16384}, {1048576, 1024, 16384},
	} {
		for n, want := range map[int]api.Errno{x.fewest - 1: api.ErrRange, x.fewest: api.OK, (x.fewest + x.most) / 2: api.OK, x.most: api.OK, x.most + 1: api.ErrRange, 2*x.most + 5: api.ErrRange} {
			if n >= 0 {
				wantAlone(t, "a file of "+strconv.Itoa(x.size)+" bytes and "+strconv.Itoa(n)+" chunks", fileItem("a", x.size, n), want)
			}
		}
	}
	for _, size := range []int{math.MinInt, math.MinInt + 1, -1048576, -1025, -1024, -65, -64, -63, -2, -1, 1048577, 1048640, 1 << 21, 1 << 32, 1<<32 + 1, math.MaxInt - 1, math.MaxInt} {
		for _, n := range []int{0, 1, 2, 1024, 1025, 16384, 16385} {
			wantAlone(t, "a file of "+strconv.Itoa(size)+" bytes", fileItem("a", size, n), api.ErrRange)
			wantAlone(t, "a directory of "+strconv.Itoa(size)+" bytes", api.Item{Path: "a", Kind: 1, Size: size, Chunks: ids(n)}, api.ErrRange)
		}
	}
	for kind, to := range map[int]string{1: "", 3: "b"} {
		wantAlone(t, "what is no file, with a byte", api.Item{Path: "a", Kind: kind, To: to, Size: 1}, api.ErrRange)
		wantAlone(t, "what is no file, with a byte and a chunk", api.Item{Path: "a", Kind: kind, To: to, Size: 1, Chunks: ids(1)}, api.ErrRange)
		wantAlone(t, "what is no file, with a chunk", api.Item{Path: "a", Kind: kind, To: to, Chunks: ids(1)}, api.ErrRange)
		wantAlone(t, "what is no file, with no chunks but not nil", api.Item{Path: "a", Kind: kind, To: to, Chunks: []api.ID{}}, api.OK)
	}
	twice := fileItem("a", 128, 0)
	twice.Chunks = []api.ID{{1}, {1}}
	wantAlone(t, "a chunk twice", twice, api.OK)
}

func TestCheckOfPlaces(t *testing.T) {
	wantCheck(t, "twice", of(dirItem("a"), dirItem("a")), api.ErrThere, 1)
	wantCheck(t, "twice, as another kind", of(dirItem("a"), dirItem("b"), fileItem("b", 1, 1)), api.ErrThere, 2)
	wantCheck(t, "b and a", of(fileItem("b", 0, 0), fileItem("a", 0, 0)), api.ErrThere, 1)
	wantCheck(t, "a, a/b, a!", of(dirItem("a"), fileItem("a/b", 1, 1), fileItem("a!", 1, 1)), api.OK, 0)
	wantCheck(t, "a, a!, a/b", of(dirItem("a"), fileItem("a!", 1, 1), fileItem("a/b", 1, 1)), api.ErrThere, 2)
	wantCheck(t, "no Parent", of(fileItem("a/b", 1, 1)), api.ErrMissing, 0)
	wantCheck(t, "a Parent behind", of(fileItem("a/b", 1, 1), dirItem("a")), api.ErrMissing, 0)
	wantCheck(t, "a Parent that is a file", of(fileItem("a", 1, 1), fileItem("a/b", 1, 1)), api.ErrMissing, 1)
	wantCheck(t, "a Parent that is a link", of(linkItem("a", "b"), fileItem("a/b", 1, 1)), api.ErrMissing, 1)
	wantCheck(t, "a Parent's Parent alone", of(dirItem("a"), fileItem("a/b/c", 1, 1)), api.ErrMissing, 1)
	wantCheck(t, "Parents far ahead", of(dirItem("a"), dirItem("a/b"), fileItem("a/b/c", 1, 1), dirItem("a/d"), fileItem("a/z", 1, 1), dirItem("b")), api.OK, 0)
}

// Of several things that are wrong with an item the first is told, and of several items the first.
func TestCheckOfSeveralFaults(t *testing.T) {
	wantCheck(t, "no path, no kind, no size", of(api.Item{Path: "a/", Kind: 9, Mode: 999, Size: -1, To: "a"}), api.ErrBytes, 0)
	wantCheck(t, "no kind, no size, no Parent", of(api.Item{Path: "a/b", Kind: 4, Size: -1}), api.ErrArg, 0)
	wantCheck(t, "no mode, too few chunks", of(api.Item{Path: "a", Kind: 2, Mode: 512, Size: 1}), api.ErrArg, 0)
	wantCheck(t, "To of a directory that has a size", of(api.Item{Path: "a", Kind: 1, Size: 1, To: "a"}), api.ErrArg, 0)
	wantCheck(t, "no size, not behind, no Parent", of(dirItem("b"), fileItem("a/b", 1, 0)), api.ErrRange, 1)
	wantCheck(t, "no size, no Parent", of(fileItem("a/b", 1, 0)), api.ErrRange, 0)
	wantCheck(t, "no size, twice", of(dirItem("a"), fileItem("a", -1, 0)), api.ErrRange, 1)
	wantCheck(t, "not behind, no Parent", of(dirItem("b"), fileItem("a/b", 1, 1)), api.ErrThere, 1)
	wantCheck(t, "no size ahead of no path", of(fileItem("a", 1, 0), api.Item{}), api.ErrRange, 0)
	wantCheck(t, "no path ahead of no size", of(api.Item{}, fileItem("a", 1, 0)), api.ErrBytes, 0)
	wantCheck(t, "no Parent ahead of no size", of(fileItem("a/b", 1, 1), fileItem("b", 1, 0)), api.ErrMissing, 0)
	wantCheck(t, "no size ahead of twice", of(dirItem("a"), fileItem("b", 1, 0), dirItem("b")), api.ErrRange, 1)
	wantCheck(t, "two of no size", of(dirItem("a"), fileItem("b", 1, 0), fileItem("c", 1, 0)), api.ErrRange, 1)
}

func TestCheckAsTheWordsSay(t *testing.T) {
	counts := map[api.Errno]int{}
	for _, l := range lists(3) {
		want, wantAt := told(l)
		if err, at := manifest.Check(of(l...)); err != want || at != wantAt {
			t.Fatalf("Check of %v: %v at %d; want %v at %d", l, err, at, want, wantAt)
		}
		counts[want]++
	}
	for _, err := range []api.Errno{api.OK, api.ErrBytes, api.ErrArg, api.ErrRange, api.ErrThere, api.ErrMissing} {
		if counts[err] < 10 {
			t.Errorf("just %d lists have %v", counts[err], err)
		}
	}
}

func TestCheckChangesNothing(t *testing.T) {
	for _, l := range lists(2) {
		m := roomy(of(l...))
		manifest.Check(m)
		if !same(m, of(l...)) {
			t.Fatalf("Check changed %v", l)
		}
		wantRoomUntouched(t, "Check", m)
	}
}

func TestCheckLooksAtNoSpareRoom(t *testing.T) {
	l := []api.Item{dirItem("a"), fileItem("b", 64, 2), {}}
	l[1].Chunks = l[1].Chunks[:1]
	wantCheck(t, "items with others behind them", of(l[:2]...), api.OK, 0)
	m := of(l...)
	m.Items = m.Items[:2]
	wantCheck(t, "a list with others behind it", m, api.OK, 0)
}
