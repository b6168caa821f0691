package index

import (
	"strconv"
	"strings"

	"satchel/api"
)

// What a pack's name is made of: a folder, and so many digits, which are as many as the last number has.
const (
	folder = "pack/"
	digits = 6
)

// isNumber tells whether a pack may have a number.
func isNumber(n int) bool { return n >= 1 && n <= api.LastPack }

// Name tells a pack's name.
func Name(n int) string {
	if !isNumber(n) {
		return ""
	}
	s := strconv.Itoa(n)
	return folder + strings.Repeat("0", digits-len(s)) + s
}

// Parse tells the number of a pack's name.
func Parse(name string) (int, bool) {
	s, is := strings.CutPrefix(name, folder)
	if !is || len(s) != digits {
		return 0, false
	}
	n := 0
	for _, c := range []byte(s) {
		if c < '0' || c > '9' {
			return 0, false
		}
		n = 10*n + int(c-'0')
	}
	return n, isNumber(n)
}
