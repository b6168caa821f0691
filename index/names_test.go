package index_test

import (
	"math"
	"strings"
	"testing"

	"satchel/index"
)

func wantName(t *testing.T, n int) {
	t.Helper()
	if got, want := index.Name(n), toldName(n); got != want {
		t.Errorf("Name(%d): %q; want %q", n, got, want)
	}
}

func wantParse(t *testing.T, name string) {
	t.Helper()
	n, is := index.Parse(name)
	if want, wantIs := toldParse(name); n != want || is != wantIs {
		t.Errorf("Parse(%q): %d, %v; want %d, %v", name, n, is, want, wantIs)
	}
}

func wantNoNumber(t *testing.T, what, name string) {
	t.Helper()
	if n, is := index.Parse(name); n != 0 || is {
		t.Errorf("%s: Parse(%q): %d, %v", what, name, n, is)
	}
}

func TestExamplesOfNames(t *testing.T) {
	if s := index.Name(3); s != "pack/000003" {
		t.Errorf("%q", s)
	}
	if n, is := index.Parse("pack/000003"); n != 3 || !is {
		t.Error(n, is)
	}
	wantNoNumber(t, "too short", "pack/3")
	wantNoNumber(t, "none", "pack/000000")
	if s := index.Name(0); s != "" {
		t.Errorf("%q", s)
	}
}

// All numbers there are have a name, and that is the name of none but them. (P18.1)
func TestEachName(t *testing.T) {
	for n := 1; n <= 999999; n++ {
		s := index.Name(n)
		if got, is := index.Parse(s); got != n || !is {
			t.Fatalf("%d: %q, %d, %v", n, s, got, is)
		}
		if len(s) != 11 || s[:5] != "pack/" {
			t.Fatalf("%d: %q", n, s)
		}
	}
}

func TestNameAtTheEdges(t *testing.T) {
	for _, n := range []int{math.MinInt, -999999, -10, -3, -1, 0, 1, 2, 9, 10, 11, 99, 100, 999, 1000, 9999, 10000, 99999, 100000, 123456, 500000, 999998, 999999, 1000000, 1000001, 1 << 31, 1<<32 + 1, math.MaxInt} {
		wantName(t, n)
	}
}

func TestParseOfNamesCutShort(t *testing.T) {
	for _, n := range []int{1, 3, 100000, 123456, 999999} {
		s := index.Name(n)
		for k := range len(s) {
			wantNoNumber(t, "cut behind", s[:k])
			wantNoNumber(t, "cut ahead", s[k+1:])
			wantNoNumber(t, "a byte less", s[:k]+s[k+1:])
		}
	}
}

func TestParseOfLongNames(t *testing.T) {
	for k := 0; k <= len("pack/000003"); k++ {
		for _, c := range []string{"0", "1", "/", " ", "+", "-", "\x00", "pack/", "\n"} {
			s := "pack/000003"
			wantNoNumber(t, "a byte more", s[:k]+c+s[k:])
		}
	}
	wantNoNumber(t, "seven digits", "pack/1000000")
	wantNoNumber(t, "very many", "pack/"+strings.Repeat("9", 1000))
	wantNoNumber(t, "more than an int", "pack/18446744073709551617")
	wantNoNumber(t, "twice", "pack/pack/000003")
	wantNoNumber(t, "twice", "pack/000003pack/000003")
}

func TestParseOfNumbersWithASign(t *testing.T) {
	for _, s := range []string{"pack/+00003", "pack/-00003", "pack/+000003", "pack/-000003", "pack/00003+", "pack/0x0003", "pack/0_0003", "pack/ 00003", "pack/00003 ", "pack/00.003", "pack/0000e3", "pack/0000٣", "pack/000³"} {
		wantNoNumber(t, "no digits", s)
	}
}

// Each byte of a name as any other byte: it is a name, just where it stays one.
func TestParseOfOtherBytes(t *testing.T) {
	for _, s := range []string{"pack/000003", "pack/123456", "pack/000000", "pack/999999", "pack/000010"} {
		for k := range len(s) {
			for c := range 256 {
				wantParse(t, s[:k]+string([]byte{byte(c)})+s[k+1:])
			}
		}
	}
}

func TestParseOfWhateverElse(t *testing.T) {
	for _, s := range []string{"", "/", "pack", "pack/", "000003", "/000003", "Pack/000003", "PACK/000003", "pick/000003", "pack\\000003", " pack/000003", "./pack/000003", "index", "index.tmp", "snap/000003", "pack/abcdef", "pack/00000a", "pack/\xff\xff\xff\xff\xff\xff"} {
		wantNoNumber(t, "another name", s)
	}
}

// What is parsed is written as it was. (P2)
func TestNamesThereAndBack(t *testing.T) {
	for i := range 20000 {
		b := someBytes(int64(i), 7)
		s := "pack/"
		for _, c := range b[:5+b[6]%3] {
			s += string("0123456789/+"[c%12])
		}
		wantParse(t, s)
		if n, is := index.Parse(s); is && index.Name(n) != s {
			t.Errorf("%q is %d, whose name is %q", s, n, index.Name(n))
		}
	}
}
