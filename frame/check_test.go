package frame_test

import (
	"math"
	"testing"

	"satchel/api"
	"satchel/frame"
)

func TestCheckOfExamples(t *testing.T) {
	for _, x := range []struct {
		f    api.Frame
		want api.Errno
	}{
		{api.Frame{Type: 6}, api.ErrType},
		{api.Frame{Type: api.FrameSyn}, api.ErrArg},
		{api.Frame{Type: api.FrameData, Session: 1, Boot: 1}, api.ErrArg},
		{api.Frame{Type: api.FrameSyn, Session: 7}, api.OK},
	} {
		if err := frame.Check(x.f); err != x.want {
			t.Errorf("%v: %v; want %v", x.f, err, x.want)
		}
	}
}

// All types, each number at its edges, bodies at theirs, all of them together: so it is seen, too, which error goes first.
func TestCheckAboutAllEdges(t *testing.T) {
	counts := map[api.Errno]int{}
	aboutAll(aboutTypes, func(f api.Frame) {
		want := wrong(f)
		counts[want]++
		if err := frame.Check(f); err != want {
			t.Errorf("%v of %d bytes: %v; want %v", f, len(f.Body), err, want)
		}
	})
	// A Syn and a Welcome of 2 and 4, a Data of 2 2 2 3 and 3 bodies, an Ack of 2 2 3, a Reset of 2 3.
	if counts[api.OK] != 2+4+72+12+6 || counts[api.ErrLong] == 0 || counts[api.ErrRange] == 0 || counts[api.ErrArg] == 0 {
		t.Error(counts)
	}
}

// What each type must have and may have, spelt out one by one.
func TestCheckOfEachTypesThings(t *testing.T) {
	whole := map[int]api.Frame{
		api.FrameSyn:     {Type: 1, Session: 3},
		api.FrameWelcome: {Type: 2, Session: 3, Boot: 4},
		api.FrameData:    {Type: 3, Session: 3, Boot: 4, Seq: 5},
		api.FrameAck:     {Type: 4, Session: 3, Boot: 4},
		api.FrameReset:   {Type: 5, Session: 3},
	}
	for _, x := range []struct {
		what   string
		change func(f *api.Frame)
		good   []int
	}{
		{"as it is", func(f *api.Frame) {}, []int{1, 2, 3, 4, 5}},
		{"no session", func(f *api.Frame) { f.Session = 0 }, nil},
		{"session 1", func(f *api.Frame) { f.Session = 1 }, []int{1, 2, 3, 4, 5}},
		{"the last session", func(f *api.Frame) { f.Session = maxID }, []int{1, 2, 3, 4, 5}},
		{"no boot", func(f *api.Frame) { f.Boot = 0 }, []int{1, 5}},
		{"boot 1", func(f *api.Frame) { f.Boot = 1 }, []int{2, 3, 4, 5}},
		{"the last boot", func(f *api.Frame) { f.Boot = maxID }, []int{2, 3, 4, 5}},
		{"no number", func(f *api.Frame) { f.Seq = 0 }, []int{1, 2, 4, 5}},
		{"number 1", func(f *api.Frame) { f.Seq = 1 }, []int{3}},
		{"the last number", func(f *api.Frame) { f.Seq = maxID }, []int{3}},
		{"ack 1", func(f *api.Frame) { f.Ack = 1 }, []int{3, 4}},
		{"the last ack", func(f *api.Frame) { f.Ack = maxID }, []int{3, 4}},
		{"an empty body", func(f *api.Frame) { f.Body = []byte{} }, []int{1, 2, 3, 4, 5}},
		{"a body", func(f *api.Frame) { f.Body = []byte{0} }, []int{3}},
		{"the longest body", func(f *api.Frame) { f.Body = make([]byte, 1400) }, []int{3}},
	} {
		want := map[int]api.Errno{1: api.ErrArg, 2: api.ErrArg, 3: api.ErrArg, 4: api.ErrArg, 5: api.ErrArg}
		for _, kind := range x.good {
			want[kind] = api.OK
		}
		for kind, f := range whole {
			x.change(&f)
			if err := frame.Check(f); err != want[kind] {
				t.Errorf("%s of type %d: %v; want %v", x.what, kind, err, want[kind])
			}
		}
	}
}

func TestCheckOfTypesThatThereAreNot(t *testing.T) {
	for kind := -300; kind <= 600; kind++ {
		if err := frame.Check(api.Frame{Type: kind}); (err == api.ErrType) == (1 <= kind && kind <= 5) {
			t.Errorf("type %d: %v", kind, err)
		}
	}
	for _, kind := range []int{math.MinInt, -1 << 32, 1 << 31, 1<<32 + 1, 1<<32 + 3, math.MaxInt} {
		f := api.Frame{Type: kind, Session: -1, Body: make([]byte, 1401)}
		if err := frame.Check(f); err != api.ErrType {
			t.Errorf("type %d: %v", kind, err)
		}
	}
}

func TestCheckOfNumbersOutOfRange(t *testing.T) {
	for _, n := range []int{math.MinInt, -1 << 32, 1 - 1<<32, -1 << 31, -2, -1, 1 << 31, 1<<31 + 1, 1<<32 - 1, 1 << 32, 1<<32 + 1, math.MaxInt} {
		for at := range 4 {
			f := api.Frame{Type: api.FrameData, Session: 1, Boot: 1, Seq: 1, Ack: 1, Body: make([]byte, 1401)}
			*[]*int{&f.Session, &f.Boot, &f.Seq, &f.Ack}[at] = n
			for kind := 1; kind <= 5; kind++ {
				f.Type = kind
				if err := frame.Check(f); err != api.ErrRange {
					t.Errorf("number %d of type %d at %d: %v", at, kind, n, err)
				}
			}
		}
	}
}

// A body that is too long is told so of the types, too, that may have none.
func TestCheckOfBodies(t *testing.T) {
	for kind := 1; kind <= 5; kind++ {
		for n := range 1500 {
			f := api.Frame{Type: kind, Session: 1, Boot: 1, Seq: 1, Body: make([]byte, n)}
			if err := frame.Check(f); err != wrong(f) {
				t.Errorf("%d bytes of type %d: %v; want %v", n, kind, err, wrong(f))
			}
		}
		for _, n := range []int{1 << 16, 1<<16 + 1, 1 << 20} {
			if err := frame.Check(api.Frame{Type: kind, Session: 1, Body: make([]byte, n)}); err != api.ErrLong {
				t.Errorf("%d bytes of type %d: %v", n, kind, err)
			}
		}
	}
}

// The spare room of a body is none of it.
func TestCheckOfSpareRoom(t *testing.T) {
	if err := frame.Check(api.Frame{Type: api.FrameSyn, Session: 1, Body: make([]byte, 0, 9)}); err != api.OK {
		t.Error(err)
	}
	if err := frame.Check(api.Frame{Type: api.FrameData, Session: 1, Boot: 1, Seq: 1, Body: make([]byte, 1400, 1401)}); err != api.OK {
		t.Error(err)
	}
}
