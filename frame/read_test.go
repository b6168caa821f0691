package frame_test

import (
	"bytes"
	"math/rand"
	"slices"
	"testing"

	"satchel/api"
	"satchel/frame"
	"satchel/guard"
)

func TestReadOfExamples(t *testing.T) {
	syn := api.Frame{Type: api.FrameSyn, Session: 7}
	b := sumBehind([]byte{83, 75, 1, 1, 0, 0, 0, 7, 0, 0, 0, 0, 0, 0, 0, 0, 0, 0, 0, 0, 0, 0})
	wantRead(t, "a Syn", b, syn)
	wantRefused(t, "a byte less", b[:25], api.ErrBytes)
	wantRefused(t, "1,427 bytes", make([]byte, 1427), api.ErrLong)
	data := sumBehind([]byte{83, 75, 1, 3, 1, 2, 3, 4, 5, 6, 7, 8, 9, 10, 11, 12, 13, 14, 15, 16, 0, 3, 17, 18, 19})
	wantRead(t, "a Data", data, api.Frame{Type: api.FrameData, Session: 0x01020304, Boot: 0x05060708, Seq: 0x090a0b0c, Ack: 0x0d0e0f10, Body: []byte{17, 18, 19}})
}

// reading tells what Read should tell of bytes that are guarded right, as the document's words say it.
func reading(bare []byte) (api.Frame, api.Errno) {
	if len(bare) > 1422 {
		return api.Frame{}, api.ErrLong
	}
	if len(bare) < 22 {
		return api.Frame{}, api.ErrBytes
	}
	if bare[0] != 83 || bare[1] != 75 {
		return api.Frame{}, api.ErrMagic
	}
	if bare[2] != 1 {
		return api.Frame{}, api.ErrVersion
	}
	if bare[3] < 1 || bare[3] > 5 {
		return api.Frame{}, api.ErrType
	}
	if bare[4] > 127 || bare[8] > 127 || bare[12] > 127 || bare[16] > 127 {
		return api.Frame{}, api.ErrRange
	}
	if 256*int(bare[20])+int(bare[21]) != len(bare)-22 {
		return api.Frame{}, api.ErrSize
	}
	number := func(at int) int {
		return ((int(bare[at])*256+int(bare[at+1]))*256+int(bare[at+2]))*256 + int(bare[at+3])
	}
	f := api.Frame{Type: int(bare[3]), Session: number(4), Boot: number(8), Seq: number(12), Ack: number(16), Body: slices.Clone(bare[22:])}
	if !fits(f) {
		return api.Frame{}, api.ErrArg
	}
	return f, api.OK
}

// wantAsSaid guards bytes, and holds what Read tells of them against what it should; it tells which error that is.
func wantAsSaid(t *testing.T, bare []byte) api.Errno {
	t.Helper()
	b := sumBehind(bare)
	want, wantErr := reading(bare)
	f, err := frame.Read(b)
	if err != wantErr || !same(f, want) {
		t.Errorf("Read of %d bytes, %v ..: %v, %v; want %v, %v", len(b), bare[:min(22, len(bare))], f, err, want, wantErr)
	}
	if err == api.OK {
		wantPut(t, f, b)
	}
	return wantErr
}

func TestThereAndBack(t *testing.T) {
	for _, f := range good() {
		b, err := frame.Put(f)
		if err != api.OK {
			t.Fatal(f, err)
		}
		wantRead(t, "what was put", b, f)
		wantAsSaid(t, b[:len(b)-4])
	}
}

func TestReadOfEachLength(t *testing.T) {
	for n := range 1401 {
		f := api.Frame{Type: api.FrameData, Session: 1, Boot: 2, Seq: 3, Ack: 4, Body: someBytes(n)}
		wantRead(t, "a body", bytesOf(f), f)
	}
}

// Fewer than 26 bytes, guarded right or not.
func TestReadOfTooFew(t *testing.T) {
	syn := bytesOf(api.Frame{Type: 1, Session: 7})
	for n := range 26 {
		wantRefused(t, "noughts", make([]byte, n), api.ErrBytes)
		wantRefused(t, "a beginning", syn[:n], api.ErrBytes)
		wantRefused(t, "more in the spare room", roomy(syn)[:n], api.ErrBytes)
		if n >= 4 {
			wantRefused(t, "guarded right", sumBehind(syn[:n-4]), api.ErrBytes)
		}
	}
	wantRefused(t, "nil", nil, api.ErrBytes)
	wantRefused(t, "26 noughts", make([]byte, 26), api.ErrSum)
}

// More than 1,426 bytes, guarded right or not.
func TestReadOfTooMany(t *testing.T) {
	f := api.Frame{Type: api.FrameData, Session: 1, Boot: 1, Seq: 1, Body: someBytes(1400)}
	wantRead(t, "1,426 bytes", bytesOf(f), f)
	wantRefused(t, "1,426 noughts", make([]byte, 1426), api.ErrSum)
	for _, n := range []int{1401, 1402, 1500, 65535, 65536, 65536 + 1400, 1 << 20} {
		f.Body = someBytes(n)
		wantRefused(t, "guarded right", bytesOf(f), api.ErrLong)
		wantRefused(t, "not guarded", append(bytesOf(f)[:22+n], 1, 2, 3, 4), api.ErrLong)
		wantRefused(t, "noughts", make([]byte, 26+n), api.ErrLong)
	}
}

// Each byte of the head as each other one, guarded anew.
func TestEachByteOfTheHeadChanged(t *testing.T) {
	for _, f := range []api.Frame{
		{Type: 1, Session: 7},
		{Type: 2, Session: 7, Boot: 9},
		{Type: 3, Session: 7, Boot: 9, Seq: 11, Ack: 13, Body: someBytes(5)},
		{Type: 3, Session: 7, Boot: 9, Seq: 11, Body: someBytes(300)},
		{Type: 3, Session: 1, Boot: 1, Seq: 1},
		{Type: 4, Session: 7, Boot: 9, Ack: 13},
		{Type: 5, Session: 7, Boot: 9},
		{Type: 5, Session: 1},
	} {
		for at := range 22 {
			for x := range 256 {
				bare := append(headOf(f, len(f.Body)), f.Body...)
				bare[at] = byte(x)
				wantAsSaid(t, bare)
			}
		}
	}
}

func TestErrorsOfTheHead(t *testing.T) {
	head := []byte{83, 75, 1, 3, 0, 0, 0, 7, 0, 0, 0, 8, 0, 0, 0, 9, 0, 0, 0, 10, 0, 0}
	for _, x := range []struct {
		at   int
		to   byte
		want api.Errno
	}{
		{0, 0, api.ErrMagic}, {0, 82, api.ErrMagic}, {0, 84, api.ErrMagic}, {0, 75, api.ErrMagic},
		{1, 0, api.ErrMagic}, {1, 74, api.ErrMagic}, {1, 76, api.ErrMagic}, {1, 83, api.ErrMagic},
		{2, 0, api.ErrVersion}, {2, 2, api.ErrVersion}, {2, 255, api.ErrVersion},
		{3, 0, api.ErrType}, {3, 6, api.ErrType}, {3, 131, api.ErrType}, {3, 255, api.ErrType},
		{4, 128, api.ErrRange}, {8, 128, api.ErrRange}, {12, 128, api.ErrRange}, {16, 128, api.ErrRange}, {4, 255, api.ErrRange},
		{20, 1, api.ErrSize}, {20, 255, api.ErrSize}, {21, 1, api.ErrSize}, {21, 255, api.ErrSize},
		{7, 0, api.ErrArg}, {11, 0, api.ErrArg}, {15, 0, api.ErrArg}, {3, 1, api.ErrArg}, {3, 2, api.ErrArg}, {3, 4, api.ErrArg}, {3, 5, api.ErrArg},
	} {
		b := slices.Clone(head)
		b[x.at] = x.to
		wantRefused(t, "a head with a byte changed", guard.Put(b), x.want)
	}
}

// Many things wrong at once: which goes first is seen, and that the sum goes ahead of them all.
func TestWhichErrorGoesFirst(t *testing.T) {
	counts := map[api.Errno]int{}
	heads := [][]byte{{83, 75}, {75, 83}, {83, 76}}
	numbers := []int{0, 1, maxID, maxID + 1, 1<<32 - 1}
	r := rand.New(rand.NewSource(11))
	for range 80000 {
		f := api.Frame{Type: []int{0, 1, 2, 3, 4, 5, 6, 255}[r.Intn(8)], Body: someBytes(r.Intn(3))}
		for _, n := range []*int{&f.Session, &f.Boot, &f.Seq, &f.Ack} {
			*n = numbers[r.Intn(3+2*r.Intn(2))]
		}
		bare := append(headOf(f, len(f.Body)-1+r.Intn(3)), f.Body...)
		copy(bare, heads[max(0, r.Intn(6)-3)])
		bare[2] = []byte{1, 1, 0, 2}[r.Intn(4)]
		counts[wantAsSaid(t, bare)]++
		b := sumBehind(bare)
		b[len(b)-1-r.Intn(4)] ^= 1 << r.Intn(8)
		wantRefused(t, "not guarded right", b, api.ErrSum)
	}
	for _, err := range []api.Errno{api.OK, api.ErrMagic, api.ErrVersion, api.ErrType, api.ErrRange, api.ErrSize, api.ErrArg} {
		if counts[err] < 50 {
			t.Errorf("%v: just %d", err, counts[err])
		}
	}
}

// Frames of all types with each number at its edges, laid as they are: what is in range is read just where it fits.
func TestReadAboutAllEdges(t *testing.T) {
	aboutAll([]int{0, 1, 2, 3, 4, 5, 6}, func(f api.Frame) {
		wantAsSaid(t, append(headOf(f, len(f.Body)), f.Body...))
	})
}

// A body of each of these lengths that says each of those, of all types.
func TestBodiesThatAreLongerOrShorterThanTheySay(t *testing.T) {
	for kind := 1; kind <= 5; kind++ {
		f := api.Frame{Type: kind, Session: 1}
		if kind > 1 {
			f.Boot = 2
		}
		if kind == 3 {
			f.Seq = 3
		}
		for _, n := range []int{0, 1, 2, 255, 256, 257, 1399, 1400} {
			for _, length := range []int{0, 1, 2, 254, 255, 256, 257, 258, 1398, 1399, 1400, 1401, 1422, 1426, 65535} {
				want := api.ErrSize
				if n == length && n > 0 && kind != 3 {
					want = api.ErrArg
				} else if n == length {
					want = api.OK
				}
				if got := wantAsSaid(t, append(headOf(f, length), someBytes(n)...)); got != want {
					t.Fatalf("type %d, %d bytes that say %d: %v; want %v", kind, n, length, got, want)
				}
			}
		}
	}
}

// turn turns bits from one on, where the pattern's bits are set, the lowest bit of a byte first.
func turn(b []byte, from int, pattern uint64) {
	for i := range 64 {
		if pattern>>i&1 == 1 {
			b[(from+i)/8] ^= 1 << ((from + i) % 8)
		}
	}
}

func TestEachBitTurned(t *testing.T) {
	for _, f := range good() {
		b := bytesOf(f)
		for bit := range 8 * len(b) {
			if len(b) > 300 && bit > 400 && bit%97 > 0 && bit < 8*len(b)-64 {
				continue
			}
			turn(b, bit, 1)
			wantRefused(t, "a bit turned", b, api.ErrSum)
			turn(b, bit, 1)
		}
	}
	b := bytesOf(api.Frame{Type: 3, Session: 1, Boot: 1, Seq: 1, Body: someBytes(1400)})
	for bit := range 8 * len(b) {
		turn(b, bit, 1)
		wantRefused(t, "a bit turned", b, api.ErrSum)
		turn(b, bit, 1)
	}
}

// Turns of each length up to 32 bits, at all places of a frame, its sum's among them.
func TestTurnsWithin32(t *testing.T) {
	r := rand.New(rand.NewSource(32))
	for _, f := range []api.Frame{{Type: 1, Session: 7}, {Type: 3, Session: 7, Boot: 9, Seq: 11, Ack: 13, Body: someBytes(20)}} {
		b := bytesOf(f)
		for length := 1; length <= 32; length++ {
			all := uint64(1)<<length - 1
			for from := range 8*len(b) - length + 1 {
				for _, pattern := range []uint64{all, 1 | 1<<(length-1), 1 | 1<<(length-1) | r.Uint64()&all} {
					turn(b, from, pattern)
					wantRefused(t, "bits turned", b, api.ErrSum)
					turn(b, from, pattern)
				}
			}
		}
		wantRead(t, "turned back", b, f)
	}
}

func TestCutShortAndWithMoreBehind(t *testing.T) {
	f := api.Frame{Type: 3, Session: 7, Boot: 9, Seq: 11, Ack: 13, Body: someBytes(60)}
	b := bytesOf(f)
	for n := range len(b) {
		want := api.ErrSum
		if n < 26 {
			want = api.ErrBytes
		}
		wantRefused(t, "cut short", b[:n], want)
		wantRefused(t, "without its beginning", b[len(b)-n:], want)
	}
	for x := range 256 {
		wantRefused(t, "a byte behind", append(slices.Clone(b), byte(x)), api.ErrSum)
		wantRefused(t, "a byte ahead", append([]byte{byte(x)}, b...), api.ErrSum)
	}
	wantRefused(t, "two of them", append(slices.Clone(b), b...), api.ErrSum)
}

func TestReadLooksAtItsBytesAlone(t *testing.T) {
	for _, f := range good() {
		b := roomy(bytesOf(f))
		was := slices.Clone(b[:cap(b)])
		got, err := frame.Read(b)
		if err != api.OK || !bytes.Equal(b[:cap(b)], was) {
			t.Fatalf("%v: %v: what was handed in was changed, or what is behind it", f, err)
		}
		again, _ := frame.Read(b)
		spoil(got.Body)
		if !bytes.Equal(b[:cap(b)], was) || !same(again, f) {
			t.Fatalf("%v: an answer shares its bytes", f)
		}
		spoil(b)
		if !same(again, f) {
			t.Fatalf("%v: bytes that were handed in were kept", f)
		}
	}
}

// The spare room of a body holds nothing of what was handed in, such as the sum behind it.
func TestSpareRoomOfABody(t *testing.T) {
	for n := range 200 {
		f := api.Frame{Type: 3, Session: 7, Boot: 9, Seq: 11, Ack: 13, Body: someBytes(n)}
		got, _ := frame.Read(roomy(bytesOf(f)))
		for _, x := range got.Body[len(got.Body):cap(got.Body)] {
			if x != 0 {
				t.Fatalf("%d bytes: %v behind them", n, x)
			}
		}
	}
}
