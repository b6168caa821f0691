package manifest_test

import (
	"bytes"
	"slices"
	"strconv"
	"strings"
	"testing"

	"satchel/api"
	"satchel/manifest"
)

// toldNumber tells a number's bytes in another way than the program.
func toldNumber(n int) []byte {
	b := []byte{byte(n % 128)}
	for n /= 128; n > 0; n /= 128 {
		b = append([]byte{byte(n%128) + 128}, b...)
	}
	return b
}

func toldText(s string) []byte { return append(toldNumber(len(s)), s...) }

// toldBytes tells a manifest's bytes as the document's words say it.
func toldBytes(m api.Manifest) []byte {
	l := [][]byte{toldNumber(m.Client), toldNumber(m.Command), toldNumber(m.Number), toldNumber(m.Tick), toldNumber(len(m.Items))}
	for _, x := range m.Items {
		l = append(l, toldText(x.Path), toldNumber(x.Kind), toldNumber(x.Mode), toldNumber(x.Size), toldText(x.To), toldNumber(len(x.Chunks)))
		for _, id := range x.Chunks {
			l = append(l, id[:])
		}
	}
	return slices.Concat(l...)
}

// manifests tells some that may be.
func manifests() []api.Manifest {
	all := []api.Manifest{
		of(), of(dirItem("a")), of(dirItem("a"), fileItem("a/b", 100, 2), linkItem("c", "\x00/é")), of(wide(200)...), of(fileItem(strings.Repeat("a", 60), 1<<20, 1024), linkItem("b", strings.Repeat("b", 200))),
		{Client: 1, Command: 1}, {Client: api.MaxID, Command: api.MaxID, Number: api.MaxID, Tick: api.MaxID, Items: []api.Item{{Path: "a", Kind: 2, Mode: 511, Size: 1 << 20, Chunks: ids(5000)}}}, {Client: 128, Command: 300, Number: 1 << 14, Tick: 1 << 21},
	}
	for _, l := range trees() {
		m, _, _ := manifest.Make(5, 6, 7, l)
		all = append(all, m, manifest.Numbered(m, 8))
	}
	for _, l := range lists(2) {
		if err, _ := told(l); err == api.OK {
			all = append(all, of(l...))
		}
	}
	return all
}

func exampleBytes() []byte { return []byte{1, 2, 0, 3, 1, 1, 97, 1, 0, 0, 0, 0} }

func TestExampleOfBytes(t *testing.T) {
	m := api.Manifest{Client: 1, Command: 2, Tick: 3, Items: []api.Item{{Path: "a", Kind: 1}}}
	if b, err := manifest.Bytes(m); err != api.OK || !bytes.Equal(b, exampleBytes()) {
		t.Errorf("%v, %v", b, err)
	}
}

func TestBytesAsTheWordsSay(t *testing.T) {
	for i, m := range manifests() {
		if b, err := manifest.Bytes(m); err != api.OK || !bytes.Equal(b, toldBytes(m)) {
			t.Errorf("manifest %d: %d bytes, %v", i, len(b), err)
		}
	}
}

func TestBytesOfWhatMayNotBe(t *testing.T) {
	for _, m := range []api.Manifest{{}, {Client: 1}, {Client: 1, Command: 1, Number: -1}, {Client: 1, Command: 1, Tick: api.MaxID + 1}, of(wide(201)...), of(dirItem("")), of(fileItem("a", 1, 0))} {
		want, _ := manifest.Check(m)
		if b, err := manifest.Bytes(m); err != want || want == api.OK || len(b) != 0 {
			t.Errorf("%v, %v; want %v", b, err, want)
		}
	}
	for _, l := range lists(2) {
		want, _ := told(l)
		if b, err := manifest.Bytes(of(l...)); err != want || (len(b) == 0) != (want != api.OK) {
			t.Fatalf("%v: %v, %v", l, b, err)
		}
	}
}

func TestBytesOfLongManifests(t *testing.T) {
	m := api.Manifest{Client: 1, Command: 1, Items: toldItems(full(0))}
	if b, err := manifest.Bytes(m); err != api.OK || len(b) != 262144 {
		t.Errorf("2^18: %d, %v", len(b), err)
	}
	for _, n := range []int{127, 128, 1 << 14, api.MaxID} {
		want := api.OK
		if n > 127 {
			want = api.ErrLong
		}
		if b, err := manifest.Bytes(manifest.Numbered(m, n)); err != want || (len(b) == 0) != (want != api.OK) {
			t.Errorf("2^18, and number %d: %d, %v", n, len(b), err)
		}
	}
	var l []api.Item
	all := ids(16384)
	for i := range 200 {
		l = append(l, api.Item{Path: "f" + strconv.Itoa(1000+i), Kind: 2, Size: 1 << 20, Chunks: all})
	}
	if b, err := manifest.Bytes(of(l...)); err != api.ErrLong || len(b) != 0 {
		t.Errorf("as long as may be: %d, %v", len(b), err)
	}
	l[199].Size = 1
	if b, err := manifest.Bytes(of(l...)); err != api.ErrRange || len(b) != 0 {
		t.Errorf("long, and may not be: %d, %v", len(b), err)
	}
}

func TestBytesChangeNothing(t *testing.T) {
	m := roomy(of(dirItem("a"), fileItem("a/b", 100, 2)))
	was := copied(m)
	b, _ := manifest.Bytes(m)
	wantRoomUntouched(t, "Bytes", m)
	kept := slices.Clone(b)
	spoil(m)
	if !bytes.Equal(b, kept) {
		t.Error("an answer was changed with what was handed in")
	}
	again, _ := manifest.Bytes(was)
	spare := b[:cap(b)]
	for i := range spare {
		spare[i] = 99
	}
	if once, _ := manifest.Bytes(was); !bytes.Equal(again, kept) || !bytes.Equal(once, kept) {
		t.Error("an answer was changed with another one")
	}
}

// What follows: what is written is read as it was. (P9.5)
func TestWrittenIsRead(t *testing.T) {
	for i, m := range manifests() {
		b, err := manifest.Bytes(m)
		if err != api.OK {
			t.Fatalf("manifest %d: %v", i, err)
		}
		if got, f := manifest.Read(b); f != (api.Fault{}) || !same(got, m) {
			t.Errorf("manifest %d: %v, or another one", i, f)
		}
	}
	m := api.Manifest{Client: 1, Command: 1, Items: toldItems(full(0))}
	b, _ := manifest.Bytes(m)
	if got, f := manifest.Read(b); f != (api.Fault{}) || !same(got, m) {
		t.Errorf("2^18 bytes: %v, or another one", f)
	}
}
