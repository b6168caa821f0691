// Package field is layer 1: numbers, texts, byte strings and IDs as bytes: see shared/doc/01-field.md.
package field

import "satchel/api"

// A number's parts are of seven bits each; a part that is not the last one has more added.
const (
	partBits = 7
	more     = 1 << partBits
	maxParts = 5
)

// Size tells how many bytes a number has.
func Size(n int) int {
	if !isNumber(n) {
		return 0
	}
	return len(parts(n))
}

func isNumber(n int) bool { return n >= 0 && n <= api.MaxID }

// parts tells a number as bytes. They are laid from the back, for how many there are shows only at the highest.
func parts(n int) []byte {
	var laid [maxParts]byte
	at := len(laid) - 1
	laid[at] = byte(n % more)
	for n /= more; n > 0; n /= more {
		at--
		laid[at] = byte(n%more) + more
	}
	return laid[at:]
}
