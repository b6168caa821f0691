package disk

import (
	"slices"

	"satchel/api"
)

// file is a file's bytes: those that are safe, and behind them those that are under way.
type file struct{ safe, loose []byte }

func (f *file) size() int { return len(f.safe) + len(f.loose) }

// all tells a copy of all bytes.
func (f *file) all() []byte { return slices.Concat(f.safe, f.loose) }

// keep makes the first n bytes safe of those that are under way. The others are gone.
func (f *file) keep(n int) {
	f.safe = append(f.safe, f.loose[:n]...)
	f.loose = nil
}

// at tells where a byte lies.
func (f *file) at(i int) *byte {
	if i < len(f.safe) {
		return &f.safe[i]
	}
	return &f.loose[i-len(f.safe)]
}

// isName tells whether a file may have a name.
func isName(s string) bool {
	if len(s) < 1 || len(s) > api.MaxName {
		return false
	}
	for i := range len(s) {
		if !isOfName(s[i]) {
			return false
		}
	}
	return true
}

func isOfName(c byte) bool {
	return c >= 'a' && c <= 'z' || c >= '0' && c <= '9' || c == '-' || c == '.' || c == '/'
}
