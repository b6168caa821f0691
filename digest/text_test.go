package digest_test

import (
	"encoding/hex"
	"strings"
	"testing"

	"satchel/api"
	"satchel/digest"
)

// wantRefused holds that a text is refused, and where.
func wantRefused(t *testing.T, s string, at int) {
	t.Helper()
	if id, f := digest.Parse(s); id != (api.ID{}) || f != (api.Fault{Err: api.ErrBytes, At: at}) {
		t.Errorf("Parse(%q): %x, %+v; want a fault at %d", s, id, f, at)
	}
}

// wantThereAndBack holds what an ID is as a text, and that it is read as it was.
func wantThereAndBack(t *testing.T, id api.ID) {
	t.Helper()
	s := digest.Text(id)
	if want := hex.EncodeToString(id[:]); s != want {
		t.Errorf("Text(%x): %s", id, s)
	}
	if got, f := digest.Parse(s); got != id || f != (api.Fault{}) {
		t.Errorf("Parse(%s): %x, %+v", s, got, f)
	}
}

func TestTextThereAndBack(t *testing.T) {
	wantThereAndBack(t, api.ID{})
	wantThereAndBack(t, api.ID{0x01, 0x23, 0x45, 0x67, 0x89, 0xab, 0xcd, 0xef, 0xfe, 0xdc, 0xba, 0x98, 0x76, 0x54, 0x32, 0x10})
	for at := range len(api.ID{}) {
		for x := range 256 {
			var id api.ID
			id[at] = byte(x)
			wantThereAndBack(t, id)
		}
	}
	for size := range 300 {
		wantThereAndBack(t, digest.ID(someBytes(size)))
	}
}

func TestParseRefusesWhatIsNoDigit(t *testing.T) {
	good := strings.Repeat("09af", 8)
	for at := range len(good) {
		for x := range 256 {
			s := good[:at] + string([]byte{byte(x)}) + good[at+1:]
			if strings.IndexByte("0123456789abcdef", byte(x)) < 0 {
				wantRefused(t, s, at)
			} else if id, f := digest.Parse(s); f != (api.Fault{}) || digest.Text(id) != s {
				t.Errorf("Parse(%s): %x, %+v", s, id, f)
			}
		}
	}
}

func TestParseRefusesGreatLetters(t *testing.T) {
	for _, great := range "ABCDEF" {
		wantRefused(t, strings.Repeat(string(great), 32), 0)
		wantRefused(t, strings.Repeat("0", 31)+string(great), 31)
	}
	wantRefused(t, strings.ToUpper(digest.Text(digest.ID([]byte("abc")))), 0)
}

func TestParseRefusesOtherSizes(t *testing.T) {
	for size := range 100 {
		if size != 32 {
			wantRefused(t, strings.Repeat("0", size), min(size, 32))
			wantRefused(t, strings.Repeat("f", size), min(size, 32))
		}
	}
	wantRefused(t, strings.Repeat("a", 1<<16), 32)
}

// A byte that is no digit is told ahead of the size, wherever it stands.
func TestParseTellsTheFirstFault(t *testing.T) {
	for _, size := range []int{1, 2, 31, 32, 33, 34, 64, 100} {
		for at := range size {
			s := []byte(strings.Repeat("0", size))
			s[at] = 'g'
			wantRefused(t, string(s), at)
			s[size-1] = '-'
			wantRefused(t, string(s), at)
		}
	}
	for s, at := range map[string]int{"BA": 0, "0g": 1, "g0": 0, " ": 0, "0x": 1, "00\n": 2, "é": 0, "0é": 1, "\x00": 0, "\xff": 0} {
		wantRefused(t, s, at)
	}
}
