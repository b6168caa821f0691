package note_test

import (
	"math"
	"slices"
	"testing"

	"satchel/api"
	"satchel/note"
)

func TestCheckOfExamples(t *testing.T) {
	if err := note.Check(api.Note{}); err != api.ErrArg {
		t.Error("kind 0:", err)
	}
	if err := note.Check(api.Note{Kind: api.NoteDone}); err != api.ErrRange {
		t.Error("done without a number:", err)
	}
}

func TestCheckAboutTheEdgesOfAllKinds(t *testing.T) {
	counts := map[api.Errno]int{}
	for _, x := range aboutAll() {
		want := told(x)
		counts[want]++
		if err := note.Check(x); err != want {
			t.Errorf("kind %d of %d, %d, %d: %v; want %v", x.Kind, len(x.N), len(x.IDs), len(x.B), err, want)
		}
	}
	if counts[api.OK] < 24 || counts[api.ErrRange] < 24*3 {
		t.Error(counts)
	}
}

// TestCheckOfEachNumberOfThings goes through all that a kind may have of one thing, and somewhat more.
func TestCheckOfEachNumberOfThings(t *testing.T) {
	for _, k := range table() {
		for n := range 1100 {
			for _, x := range []api.Note{
				{Kind: k.kind, N: make([]int, n), IDs: make([]api.ID, k.mostID), B: make([]byte, k.mostB)},
				{Kind: k.kind, N: make([]int, k.mostN), IDs: make([]api.ID, n), B: make([]byte, k.mostB)},
				{Kind: k.kind, N: make([]int, k.mostN), IDs: make([]api.ID, k.mostID), B: make([]byte, n)},
			} {
				if err := note.Check(x); err != told(x) {
					t.Fatalf("kind %d of %d, %d, %d: %v; want %v", x.Kind, len(x.N), len(x.IDs), len(x.B), err, told(x))
				}
			}
		}
	}
}

func TestCheckOfKindsThatThereAreNot(t *testing.T) {
	for _, kind := range []int{math.MinInt, -1 << 31, -24, -1, 0, 25, 26, 255, 256 + 5, 1<<32 + 5, math.MaxInt} {
		for _, x := range []api.Note{{Kind: kind}, {Kind: kind, N: []int{1}}, {Kind: kind, N: []int{-1}}, noteOf(kind, 2000, 2000, 2000)} {
			if err := note.Check(x); err != api.ErrArg {
				t.Errorf("kind %d: %v", kind, err)
			}
			if b, err := note.Bytes(x); err != api.ErrArg || len(b) > 0 {
				t.Errorf("kind %d: %v, %v", kind, b, err)
			}
		}
	}
}

func TestCheckOfNumbers(t *testing.T) {
	bad := []int{math.MinInt, -1 << 31, -2, -1, 1 << 31, 1<<31 + 1, 1 << 32, math.MaxInt}
	for _, k := range table() {
		x := noteOf(k.kind, k.mostN, k.mostID, k.mostB)
		for at := range x.N {
			for _, n := range []int{0, 1, 1<<31 - 2, 1<<31 - 1} {
				x.N[at] = n
				if err := note.Check(x); err != api.OK {
					t.Errorf("kind %d, number %d of %d: %v", k.kind, at, n, err)
				}
			}
			for _, n := range bad {
				x.N[at] = n
				if err := note.Check(x); err != api.ErrRange {
					t.Errorf("kind %d, number %d of %d: %v", k.kind, at, n, err)
				}
				if b, err := note.Bytes(x); err != api.ErrRange || len(b) > 0 {
					t.Errorf("kind %d, number %d of %d: %v, %v", k.kind, at, n, b, err)
				}
			}
			x.N[at] = 7
		}
	}
}

func TestCheckLeavesTheNoteAsItIs(t *testing.T) {
	for _, x := range good() {
		was := api.Note{Kind: x.Kind, N: slices.Clone(x.N), IDs: slices.Clone(x.IDs), B: slices.Clone(x.B)}
		if note.Check(x); !same(x, was) {
			t.Errorf("kind %d is another one", x.Kind)
		}
	}
}

// TestCheckReadsNoSpareRoom hands in lists behind which there is more that may not be.
func TestCheckReadsNoSpareRoom(t *testing.T) {
	x := api.Note{Kind: api.NoteDone, N: []int{1, -1}[:1], IDs: make([]api.ID, 3)[:0], B: make([]byte, 3)[:0]}
	if err := note.Check(x); err != api.OK {
		t.Error(err)
	}
}

func TestAgents(t *testing.T) {
	for kind := -300; kind <= 300; kind++ {
		if note.Agents(kind) != (1 <= kind && kind <= 15) {
			t.Error(kind)
		}
	}
	for _, kind := range []int{math.MinInt, 1<<32 + 1, math.MaxInt} {
		if note.Agents(kind) {
			t.Error(kind)
		}
	}
}

func TestName(t *testing.T) {
	names := map[int]string{}
	for _, k := range table() {
		names[k.kind] = k.name
	}
	for kind := -300; kind <= 300; kind++ {
		if got := note.Name(kind); got != names[kind] {
			t.Errorf("%d: %q", kind, got)
		}
	}
	for _, kind := range []int{math.MinInt, 1<<32 + 1, math.MaxInt} {
		if got := note.Name(kind); got != "" {
			t.Errorf("%d: %q", kind, got)
		}
	}
}
