package manifest_test

import (
	"bytes"
	"slices"
	"strconv"
	"testing"

	"satchel/api"
	"satchel/chunk"
	"satchel/manifest"
	"satchel/tree"
)

// wantNoBuild says which error Build tells, and that it tells nothing else.
func wantNoBuild(t *testing.T, what string, m api.Manifest, l []api.Chunk, want api.Errno) {
	t.Helper()
	if got, err := manifest.Build(m, l); err != want || len(got) != 0 {
		t.Errorf("Build of %s: %.100v, %v; want %v", what, got, err, want)
	}
}

func wantBuild(t *testing.T, what string, m api.Manifest, l []api.Chunk, want []api.Entry) {
	t.Helper()
	if got, err := manifest.Build(m, l); err != api.OK || !slices.EqualFunc(got, want, sameEntry) {
		t.Errorf("Build of %s: %.100v, %v", what, got, err)
	}
}

// chunkOf tells a chunk of bytes, by their own ID.
func chunkOf(s string) api.Chunk { return api.Chunk{ID: idOf([]byte(s)), Data: []byte(s)} }

// naming tells a file's item that names some bytes.
func naming(p string, size int, l ...string) api.Item {
	x := api.Item{Path: p, Kind: 2, Size: size}
	for _, s := range l {
		x.Chunks = append(x.Chunks, idOf([]byte(s)))
	}
	return x
}

func TestExamplesOfBuild(t *testing.T) {
	m, l, _ := manifest.Make(1, 2, 3, made())
	wantBuild(t, "its own", m, l, made())
	wantNoBuild(t, "none", m, nil, api.ErrMissing)
	wantNoBuild(t, "x's ID with y", m, []api.Chunk{{ID: l[0].ID, Data: []byte("y")}}, api.ErrDamaged)
}

func TestBuildOfWhatMayNotBe(t *testing.T) {
	x := chunkOf("x")
	for _, l := range lists(2) {
		if want, _ := told(l); want != api.OK {
			wantNoBuild(t, "what may not be", of(l...), []api.Chunk{x}, want)
		}
	}
	m := of(naming("a", 1, "x"))
	for _, set := range []func(){func() { m.Client = 0 }, func() { m.Client, m.Command = 1, 0 }, func() { m.Command, m.Number = 1, -1 }, func() { m.Number, m.Tick = 1, -1 }} {
		set()
		wantNoBuild(t, "no number", m, []api.Chunk{x}, api.ErrRange)
		wantNoBuild(t, "no number, and no chunks", m, nil, api.ErrRange)
	}
	wantNoBuild(t, "201", of(wide(201)...), nil, api.ErrLong)
	wantNoBuild(t, "none there, and the last may not be", of(fileItem("a", 1, 1), dirItem("/")), nil, api.ErrBytes)
}

func TestBuildOfMissingAndDamaged(t *testing.T) {
	long, other := string(someBytes(1, 100)), string(someBytes(2, 64))
	x, y := chunkOf(long), chunkOf(other)
	bad := api.Chunk{ID: x.ID, Data: []byte(other)}
	none := api.Chunk{ID: y.ID}
	m := of(dirItem("a"), naming("a/b", 164, long, other), naming("c", 64, other))
	want := []api.Entry{dir("a"), {Path: "a/b", Kind: 2, Data: []byte(long + other)}, {Path: "c", Kind: 2, Data: []byte(other)}}
	for _, l := range [][]api.Chunk{{x, y}, {y, x}, {y, x, x, y}, {chunkOf("z"), y, {}, x}, {x, bad, y, none}, {{ID: api.ID{1}, Data: x.Data}, y, x}} {
		wantBuild(t, "both there", m, l, want)
	}
	for _, l := range [][]api.Chunk{nil, {}, {x}, {y}, {chunkOf("z")}, {x, {ID: api.ID{1}, Data: y.Data}}} {
		wantNoBuild(t, "one missing", m, l, api.ErrMissing)
	}
	for _, l := range [][]api.Chunk{{bad, y}, {x, none}, {bad, x, y}, {x, none, y}, {y, bad, x}} {
		wantNoBuild(t, "the first one damaged", m, l, api.ErrDamaged)
	}
	wantNoBuild(t, "the first name missing, the second damaged", m, []api.Chunk{none}, api.ErrMissing)
	wantNoBuild(t, "the first name damaged, the second missing", m, []api.Chunk{bad}, api.ErrDamaged)
	wantNoBuild(t, "a turned bit", m, []api.Chunk{{ID: x.ID, Data: append([]byte{x.Data[0] ^ 1}, x.Data[1:]...)}, y}, api.ErrDamaged)
	wantNoBuild(t, "a byte more", m, []api.Chunk{{ID: x.ID, Data: append(slices.Clone(x.Data), 0)}, y}, api.ErrDamaged)
	wantNoBuild(t, "a turned bit of an ID", of(naming("c", 1, "x")), []api.Chunk{{ID: api.ID{15: 1}, Data: []byte("x")}}, api.ErrMissing)
	nobody := []api.Chunk{x, y, {ID: api.ID{7}, Data: []byte("7")}}
	wantBuild(t, "a damaged one that nobody names", m, nobody, want)
}

func TestBuildOfSizes(t *testing.T) {
	x, y := string(someBytes(1, 64)), string(someBytes(2, 36))
	l := []api.Chunk{chunkOf(x), chunkOf(y), chunkOf("")}
	for size := 65; size <= 128; size++ {
		m := of(naming("a", size, x, y))
		if size == 100 {
			wantBuild(t, "as many bytes", m, l, []api.Entry{{Path: "a", Kind: 2, Data: []byte(x + y)}})
			continue
		}
		wantNoBuild(t, "another size", m, l, api.ErrBytes)
	}
	wantNoBuild(t, "none of one", of(naming("a", 1, "")), l, api.ErrBytes)
	wantNoBuild(t, "a size ahead of a missing one", of(naming("a", 1, x), naming("b", 1, "z")), l, api.ErrBytes)
	wantNoBuild(t, "a missing one ahead of a size", of(naming("a", 1, "z"), naming("b", 1, x)), l, api.ErrMissing)
	wantNoBuild(t, "a missing one of a file of another size", of(naming("a", 65, x, "z")), l, api.ErrMissing)
	wantNoBuild(t, "a missing one behind more bytes than there are", of(naming("a", 65, x+y, "z")), append(l, chunkOf(x+y)), api.ErrMissing)
	wantNoBuild(t, "a damaged one behind more bytes than there are", of(naming("a", 65, x+y, "z")), append(l, chunkOf(x+y), api.Chunk{ID: idOf([]byte("z"))}), api.ErrDamaged)
	// Which pieces a file's bytes have is not looked at, but that they are of these names.
	wantBuild(t, "other pieces than a cut would tell", of(naming("a", 100, y, x)), l, []api.Entry{{Path: "a", Kind: 2, Data: []byte(y + x)}})
	wantBuild(t, "several files of the same pieces", of(naming("a", 100, y, x), naming("b", 36, y), naming("c", 100, x, y)), l, []api.Entry{{Path: "a", Kind: 2, Data: []byte(y + x)}, {Path: "b", Kind: 2, Data: []byte(y)}, {Path: "c", Kind: 2, Data: []byte(x + y)}})
	wantBuild(t, "a piece of no bytes", of(naming("a", 100, "", x+y)), append(l, chunkOf(x+y)), []api.Entry{{Path: "a", Kind: 2, Data: []byte(x + y)}})
	big := string(someBytes(3, 5000))
	wantBuild(t, "a piece of more bytes than a chunk has", of(naming("a", 5000, "", "", "", "", big)), append(l, chunkOf(big)), []api.Entry{{Path: "a", Kind: 2, Data: []byte(big)}})
}

// What follows: Build of a tree's own manifest and chunks is the tree. (P9.6)
func TestBuildOfTrees(t *testing.T) {
	more := []api.Chunk{chunkOf("more"), chunkOf(""), {ID: api.ID{1, 2, 3}, Data: []byte("unlike")}, {ID: api.ID{}}}
	for i, l := range trees() {
		m, chunks, err := manifest.Make(1, 2, 3, l)
		if err != api.OK {
			t.Fatal(err)
		}
		wantBuild(t, "tree "+strconv.Itoa(i), m, chunks, l)
		wantBuild(t, "a numbered one", manifest.Numbered(m, 9), chunks, l)
		wantBuild(t, "more ahead", m, slices.Concat(more, chunks), l)
		wantBuild(t, "more behind, and the same once more", m, slices.Concat(chunks, more, chunks), l)
		back := slices.Clone(chunks)
		slices.Reverse(back)
		wantBuild(t, "from the back", m, back, l)
		for k := range min(len(chunks), 5) {
			wantNoBuild(t, "all but one", m, slices.Concat(chunks[:k], chunks[k+1:]), api.ErrMissing)
		}
	}
}

// Whatever chunks are handed in, what is told has the manifest's items, and bytes of their names. (P9.6)
func TestBuildOfWhateverChunks(t *testing.T) {
	m, chunks, _ := manifest.Make(1, 2, 3, some())
	told := map[api.Errno]int{}
	for i := range 400 {
		l := slices.Clone(chunks)
		b := someBytes(int64(i), 4)
		at, to := int(b[0])%len(l), int(b[1])%len(l)
		switch b[2] % 4 {
		case 0:
			l[at].Data = append([]byte{b[3]}, l[at].Data[1:]...)
		case 1:
			l = slices.Delete(l, at, at+1)
		case 2:
			l[at], l[to] = l[to], l[at]
		case 3:
			l[at].Data = l[to].Data
		}
		got, err := manifest.Build(m, l)
		told[err]++
		if err == api.OK && !slices.EqualFunc(got, some(), sameEntry) {
			t.Fatalf("%d: another tree", i)
		}
		if err != api.OK && len(got) > 0 {
			t.Fatalf("%d: %v, and a tree", i, err)
		}
	}
	if len(told) != 3 || told[api.OK] < 50 || told[api.ErrMissing] < 50 || told[api.ErrDamaged] < 50 {
		t.Error(told)
	}
}

// A tree that is built is one that may be, and has the sizes that the manifest tells.
func TestWhatIsBuiltMayBe(t *testing.T) {
	m, chunks, _ := manifest.Make(1, 2, 3, some())
	l, _ := manifest.Build(m, chunks)
	if err, at := tree.Check(l); err != api.OK || len(l) != len(m.Items) {
		t.Errorf("%v at %d", err, at)
	}
	again, _, _ := manifest.Make(1, 2, 3, l)
	if !same(again, m) {
		t.Error("the manifest of what is built is another one")
	}
}

// A great chunk that is named as often as may be is digested once, and not laid together in vain.
func TestBuildOfMuchForLittle(t *testing.T) {
	great := chunkOf(string(someBytes(4, 1<<20)))
	var l []api.Item
	for i := range 200 {
		l = append(l, api.Item{Path: "f" + strconv.Itoa(1000+i), Kind: 2, Size: 1 << 20, Chunks: slices.Repeat([]api.ID{great.ID}, 16384)})
	}
	wantNoBuild(t, "a great chunk", of(l...), []api.Chunk{great}, api.ErrBytes)
	small := chunkOf(string(someBytes(5, 64)))
	for i := range l {
		l[i].Chunks = slices.Repeat([]api.ID{small.ID}, 16384)
	}
	got, err := manifest.Build(of(l...), []api.Chunk{small})
	if err != api.OK || len(got) != 200 || !bytes.Equal(got[199].Data, bytes.Repeat(small.Data, 16384)) {
		t.Errorf("%d, %v", len(got), err)
	}
}

func TestBuildIsNewMemory(t *testing.T) {
	m, chunks, _ := manifest.Make(1, 2, 3, some())
	m = roomy(m)
	was := copied(m)
	for i, c := range chunks {
		chunks[i].Data = append(slices.Clone(c.Data), "spare"...)[:len(c.Data)]
	}
	chunks = append(chunks, chunkOf("spare"))[:len(chunks)]
	l, _ := manifest.Build(m, chunks)
	wantApart(t, "Build", len(l),
		func(i int) {
			b := l[i].Data[:cap(l[i].Data)]
			for k := range b {
				b[k] ^= 255
			}
		},
		func(i int) string { return string(l[i].Data) })
	if !same(m, was) || !slices.EqualFunc(chunks, toldChunks(some()), sameChunk) {
		t.Error("what was handed in was changed with an answer")
	}
	wantRoomUntouched(t, "Build", m)
	for _, c := range chunks {
		if n := len(c.Data); string(c.Data[n:n+5]) != "spare" {
			t.Errorf("a chunk's spare room: %q", c.Data[n:n+5])
		}
	}
	wantNoBuild(t, "a chunk in the spare room", of(naming("a", 5, "spare")), chunks, api.ErrMissing)
	l, _ = manifest.Build(m, chunks)
	spoil(m)
	for i, c := range chunks {
		for k := range c.Data {
			c.Data[k] ^= 255
		}
		chunks[i] = api.Chunk{}
	}
	if !slices.EqualFunc(l, some(), sameEntry) {
		t.Error("an answer was changed with what was handed in")
	}
}

// The trees that the tests are made of cut as they say.
func TestBlocks(t *testing.T) {
	if got := chunk.Cut(blocks(50)); !slices.Equal(got, slices.Repeat([]int{64}, 50)) {
		t.Error(got)
	}
}
