package manifest_test

import (
	"bytes"
	"slices"
	"strings"
	"testing"

	"satchel/api"
	"satchel/manifest"
)

// wantFault says which fault bytes have, and that nothing else is told.
func wantFault(t *testing.T, what string, b []byte, err api.Errno, at int) {
	t.Helper()
	m, f := manifest.Read(b)
	if f != (api.Fault{Err: err, At: at}) || !same(m, api.Manifest{}) {
		t.Errorf("Read of %s (%.60v): %.100v, %+v; want %v at %d", what, b, m, f, err, at)
	}
}

func TestExamplesOfRead(t *testing.T) {
	want := api.Manifest{Client: 1, Command: 2, Tick: 3, Items: []api.Item{{Path: "a", Kind: 1}}}
	if m, f := manifest.Read(exampleBytes()); f != (api.Fault{}) || !same(m, want) {
		t.Errorf("%v, %v", m, f)
	}
	wantFault(t, "all but the last one", exampleBytes()[:11], api.ErrBytes, 11)
	wantFault(t, "client 0", []byte{0, 2, 0, 3, 0}, api.ErrRange, 0)
	wantFault(t, "the path /", []byte{1, 2, 0, 3, 1, 1, 47, 1, 0, 0, 0, 0}, api.ErrBytes, 12)
}

func TestReadOfLongBytes(t *testing.T) {
	for _, b := range [][]byte{make([]byte, 1<<18+1), make([]byte, 1<<20), bytes.Repeat([]byte{1}, 1<<18+1)} {
		wantFault(t, "more than 2^18", b, api.ErrLong, 262144)
	}
	wantFault(t, "2^18 noughts", make([]byte, 1<<18), api.ErrRange, 0)
	b := append([]byte{1, 2, 0, 3, 0}, make([]byte, 1<<18-5)...)
	wantFault(t, "2^18, of which most are left", b, api.ErrBytes, 5)
}

// A manifest that is cut short is refused where it ends.
func TestReadOfFirstParts(t *testing.T) {
	m := of(dirItem("a"), fileItem("a/b", 300, 2), linkItem("c", "dd"))
	m.Client, m.Tick = 300, api.MaxID
	b := toldBytes(m)
	for n := range b {
		wantFault(t, "a first part", b[:n], api.ErrBytes, n)
	}
	wantFault(t, "one byte more", append(slices.Clone(b), 0), api.ErrBytes, len(b))
	wantFault(t, "many bytes more", append(slices.Clone(b), b...), api.ErrBytes, len(b))
	wantFault(t, "bytes more behind what may not be", append(toldBytes(of(dirItem("/"))), 7), api.ErrBytes, len(toldBytes(of(dirItem("/")))))
}

// part is one of a manifest's parts as bytes, in place of which others are laid.
type part struct {
	what  string
	place int
	good  []byte
}

// partsOf tells the parts of a manifest of two items: a directory of no other fields, and a file (or a link, if it has a target).
func partsOf(second api.Item) []part {
	var l []part
	at := 0
	lay := func(what string, b []byte) {
		l = append(l, part{what, at, b})
		at += len(b)
	}
	for _, x := range []string{"client", "command", "number", "tick"} {
		lay(x, []byte{1})
	}
	lay("items", []byte{2})
	for _, x := range []api.Item{{Path: "a", Kind: 1}, second} {
		lay(x.Path+" path", toldText(x.Path))
		lay(x.Path+" kind", toldNumber(x.Kind))
		lay(x.Path+" mode", toldNumber(x.Mode))
		lay(x.Path+" size", toldNumber(x.Size))
		lay(x.Path+" to", toldText(x.To))
		lay(x.Path+" chunks", toldNumber(len(x.Chunks)))
		for _, id := range x.Chunks {
			lay(x.Path+" id", id[:])
		}
	}
	return l
}

// with tells the bytes with others in the place of a part, and where that begins.
func with(t *testing.T, l []part, what string, other []byte) ([]byte, int) {
	t.Helper()
	var b []byte
	place := -1
	for _, p := range l {
		if p.what == what && place < 0 {
			place = len(b)
			b = append(b, other...)
		} else {
			b = append(b, p.good...)
		}
	}
	if place < 0 {
		t.Fatalf("no part %s", what)
	}
	return b, place
}

func TestReadOfEachPart(t *testing.T) {
	l := partsOf(api.Item{Path: "b", Kind: 2, Mode: 420, Size: 100, Chunks: ids(2)})
	good, _ := with(t, l, "client", []byte{1})
	if _, f := manifest.Read(good); f != (api.Fault{}) {
		t.Fatal(f)
	}
	number := toldNumber
	for _, x := range []struct {
		what string
		b    []byte
		err  api.Errno
	}{
		{"client", number(0), api.ErrRange}, {"client", number(api.MaxID + 1), api.ErrRange},
		{"command", number(0), api.ErrRange}, {"command", number(api.MaxID + 1), api.ErrRange},
		{"number", number(api.MaxID + 1), api.ErrRange}, {"tick", number(api.MaxID + 1), api.ErrRange},
		{"items", number(201), api.ErrLong}, {"items", number(api.MaxID), api.ErrLong}, {"items", number(api.MaxID + 1), api.ErrRange},
		{"a path", number(201), api.ErrLong}, {"b path", number(201), api.ErrLong}, {"b path", toldText(strings.Repeat("b", 201)), api.ErrLong},
		{"a kind", number(0), api.ErrRange}, {"a kind", number(4), api.ErrRange}, {"b kind", number(0), api.ErrRange}, {"b kind", number(4), api.ErrRange},
		{"a mode", number(512), api.ErrRange}, {"b mode", number(512), api.ErrRange}, {"b mode", number(api.MaxID), api.ErrRange},
		{"a size", number(1<<20 + 1), api.ErrRange}, {"b size", number(1<<20 + 1), api.ErrRange},
		{"a to", number(201), api.ErrLong}, {"b to", number(201), api.ErrLong}, {"b to", toldText(strings.Repeat("b", 201)), api.ErrLong},
		{"a chunks", number(16385), api.ErrLong}, {"b chunks", number(16385), api.ErrLong},
	} {
		b, place := with(t, l, x.what, x.b)
		wantFault(t, x.what, b, x.err, place)
		if x.err == api.ErrRange && x.b[0] != 136 {
			b, place = with(t, l, x.what, append([]byte{128}, x.b...))
			wantFault(t, x.what+" of a part of 0", b, api.ErrBytes, place)
		}
	}
	// As many as may be are awaited, and are not there: what is told is that the bytes end.
	for what, most := range map[string]int{"items": 200, "a chunks": 16384, "b chunks": 16384} {
		b, place := with(t, l, what, number(most))
		b = b[:place+len(number(most))]
		wantFault(t, what+", all of which are missing", b, api.ErrBytes, len(b))
	}
	for what, s := range map[string]string{"a path": strings.Repeat("a", 200), "b to": strings.Repeat("b", 200)} {
		b, _ := with(t, l, what, toldText(s))
		want := map[string]api.Errno{"a path": api.ErrBytes, "b to": api.ErrArg}[what]
		wantFault(t, what+" of 200 bytes", b, want, len(b))
	}
}

func TestReadOfEachPartAtItsEdges(t *testing.T) {
	l := partsOf(api.Item{Path: "b", Kind: 2, Size: 1 << 20, Chunks: ids(1024)})
	for what, edges := range map[string][]int{"client": {1, api.MaxID}, "command": {1, api.MaxID}, "number": {0, api.MaxID}, "tick": {0, api.MaxID}, "a mode": {0, 511}, "b mode": {0, 511}} {
		for _, n := range edges {
			b, _ := with(t, l, what, toldNumber(n))
			if m, f := manifest.Read(b); f != (api.Fault{}) || !bytes.Equal(toldBytes(m), b) {
				t.Errorf("%s %d: %v", what, n, f)
			}
		}
	}
	b := toldBytes(of(wide(200)...))
	if m, f := manifest.Read(b); f != (api.Fault{}) || len(m.Items) != 200 {
		t.Errorf("200 items: %v", f)
	}
}

// What may not be, but has all its parts, is told at how many bytes there are.
func TestReadOfWhatMayNotBe(t *testing.T) {
	n := 0
	for _, l := range lists(3) {
		if slices.ContainsFunc(l, func(x api.Item) bool {
			return x.Kind < 1 || x.Kind > 3 || x.Mode < 0 || x.Mode > 511 || x.Size < 0
		}) {
			continue
		}
		b := toldBytes(of(l...))
		want, _ := told(l)
		if want == api.OK {
			if m, f := manifest.Read(b); f != (api.Fault{}) || !same(m, of(l...)) {
				t.Fatalf("%v: %v, %v", l, m, f)
			}
			continue
		}
		wantFault(t, "what may not be", b, want, len(b))
		n++
	}
	if n < 1000 {
		t.Errorf("just %d", n)
	}
}

// What follows: what is read may be, and is written as it was. (P9.5)
func TestReadIsWritten(t *testing.T) {
	m := of(dirItem("a"), fileItem("a/b", 65, 2), linkItem("c", "dd"))
	b := toldBytes(m)
	read := 0
	for at := range b {
		for x := range 256 {
			other := slices.Clone(b)
			other[at] = byte(x)
			got, f := manifest.Read(other)
			if f.Err != api.OK {
				continue
			}
			read++
			if err, _ := manifest.Check(got); err != api.OK {
				t.Fatalf("%v is read, and may not be: %v", other, err)
			}
			if again, err := manifest.Bytes(got); err != api.OK || !bytes.Equal(again, other) {
				t.Fatalf("%v is written as %v, %v", other, again, err)
			}
		}
	}
	if read < 32*256 {
		t.Errorf("just %d were read", read)
	}
}

func TestReadIsNewMemory(t *testing.T) {
	want := of(dirItem("a"), fileItem("a/b", 65, 2), fileItem("c", 65, 2), linkItem("d", "dd"))
	given := append(toldBytes(want), 1, 2, 3)
	b := given[:len(given)-3]
	m, f := manifest.Read(b)
	if f != (api.Fault{}) {
		t.Fatal(f)
	}
	if !bytes.Equal(given, append(toldBytes(want), 1, 2, 3)) {
		t.Error("what was handed in was changed")
	}
	for i := range given {
		given[i] ^= 255
	}
	if !same(m, want) {
		t.Error("an answer was changed with what was handed in")
	}
	wantOwnLists(t, "Read", m)
}
