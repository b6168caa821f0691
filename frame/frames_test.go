package frame_test

import (
	"bytes"
	"hash/crc32"
	"math"
	"math/rand"
	"slices"
	"testing"

	"satchel/api"
	"satchel/frame"
)

const maxID = 2147483647

// aboutTypes are the types, and what is none.
var aboutTypes = []int{math.MinInt, -1, 0, 1, 2, 3, 4, 5, 6, 255, 256 + 3, 1<<32 + 3, math.MaxInt}

// aboutNumbers are the edges of numbers; the middle three are in range.
var aboutNumbers = []int{-1, 0, 1, maxID, maxID + 1}

// aboutBodies are how many bytes a body has about its edges.
var aboutBodies = []int{0, 1, 1400, 1401}

// someBytes tells so many bytes that differ with their place.
func someBytes(n int) []byte {
	b := make([]byte, n)
	rand.New(rand.NewSource(int64(n))).Read(b)
	return b
}

// sumBehind tells bytes with their sum behind them, its lowest byte first, in another way than the program.
func sumBehind(b []byte) []byte {
	sum := crc32.ChecksumIEEE(b)
	return append(slices.Clone(b), byte(sum), byte(sum>>8), byte(sum>>16), byte(sum>>24))
}

// fits tells whether a frame is as its type says, type by type as the document's words say it.
func fits(f api.Frame) bool {
	switch f.Type {
	case 1:
		return f.Session >= 1 && f.Boot == 0 && f.Seq == 0 && f.Ack == 0 && len(f.Body) == 0
	case 2:
		return f.Session >= 1 && f.Boot >= 1 && f.Seq == 0 && f.Ack == 0 && len(f.Body) == 0
	case 3:
		return f.Session >= 1 && f.Boot >= 1 && f.Seq >= 1
	case 4:
		return f.Session >= 1 && f.Boot >= 1 && f.Seq == 0 && len(f.Body) == 0
	}
	return f.Session >= 1 && f.Seq == 0 && f.Ack == 0 && len(f.Body) == 0
}

func isNumber(n int) bool { return n >= 0 && n <= maxID }

// wrong tells what is wrong with a frame as the document's words say it.
func wrong(f api.Frame) api.Errno {
	if f.Type < 1 || f.Type > 5 {
		return api.ErrType
	}
	if !isNumber(f.Session) || !isNumber(f.Boot) || !isNumber(f.Seq) || !isNumber(f.Ack) {
		return api.ErrRange
	}
	if len(f.Body) > 1400 {
		return api.ErrLong
	}
	if !fits(f) {
		return api.ErrArg
	}
	return api.OK
}

// four tells a number's lowest four bytes, the highest first.
func four(n int) []byte { return []byte{byte(n >> 24), byte(n >> 16), byte(n >> 8), byte(n)} }

// headOf tells the 22 bytes ahead of a body.
func headOf(f api.Frame, length int) []byte {
	return slices.Concat([]byte{83, 75, 1, byte(f.Type)}, four(f.Session), four(f.Boot), four(f.Seq), four(f.Ack), four(length)[2:])
}

// bytesOf tells a frame's bytes, whatever is wrong with it.
func bytesOf(f api.Frame) []byte {
	return sumBehind(append(headOf(f, len(f.Body)), f.Body...))
}

// same tells whether two frames are: no body and an empty one are the same.
func same(a, b api.Frame) bool {
	return a.Type == b.Type && a.Session == b.Session && a.Boot == b.Boot && a.Seq == b.Seq && a.Ack == b.Ack && bytes.Equal(a.Body, b.Body)
}

// aboutAll goes through frames of all types, with all that there is about the edges of each number and of the body.
func aboutAll(types []int, yield func(api.Frame)) {
	for _, kind := range types {
		for _, session := range aboutNumbers {
			for _, boot := range aboutNumbers {
				for _, seq := range aboutNumbers {
					for _, ack := range aboutNumbers {
						for _, n := range aboutBodies {
							yield(api.Frame{Type: kind, Session: session, Boot: boot, Seq: seq, Ack: ack, Body: someBytes(n)})
						}
					}
				}
			}
		}
	}
}

// good tells frames that may be: those about the edges, and such as have bodies of other lengths and numbers of which each byte is another one.
func good() []api.Frame {
	var all []api.Frame
	aboutAll([]int{1, 2, 3, 4, 5}, func(f api.Frame) {
		if wrong(f) == api.OK {
			all = append(all, f)
		}
	})
	for _, n := range []int{2, 22, 26, 255, 256, 257, 1024, 1399} {
		all = append(all, api.Frame{Type: 3, Session: 0x01020304, Boot: 0x7a0b0c0d, Seq: 0x0f804020, Ack: 0x7f00ff01, Body: someBytes(n)})
	}
	return append(all, api.Frame{Type: 4, Session: 0x01020304, Boot: 0x05060708, Ack: 0x090a0b0c}, api.Frame{Type: 5, Session: 256, Boot: 65536})
}

// wantRead holds what Read tells against the frame that it should.
func wantRead(t *testing.T, what string, b []byte, want api.Frame) {
	t.Helper()
	if f, err := frame.Read(b); err != api.OK || !same(f, want) {
		t.Errorf("%s: Read of %d bytes: %v, %v; want %v", what, len(b), f, err, want)
	}
}

// wantRefused says that bytes are refused so, and that nothing is told of them.
func wantRefused(t *testing.T, what string, b []byte, want api.Errno) {
	t.Helper()
	if f, err := frame.Read(b); err != want || !same(f, api.Frame{}) {
		t.Errorf("%s: Read of %d bytes: %v, %v; want %v", what, len(b), f, err, want)
	}
}

// spoil writes over bytes and over all their spare room.
func spoil(b []byte) {
	all := b[:cap(b)]
	for i := range all {
		all[i] ^= 85
	}
}

// roomy tells the same bytes with spare room behind them, which holds others.
func roomy(b []byte) []byte {
	all := append(slices.Clone(b), 90, 91, 92, 93, 94, 95, 96, 97)
	return all[:len(b)]
}
