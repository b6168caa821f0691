package digest

import (
	"strings"

	"satchel/api"
)

// digits are those of 16. A byte is two of them.
const (
	digits   = "0123456789abcdef"
	textSize = 2 * len(api.ID{})
)

// Text tells an ID as a text.
func Text(id api.ID) string {
	var text [textSize]byte
	for i, b := range id {
		text[2*i] = digits[b/16]
		text[2*i+1] = digits[b%16]
	}
	return string(text[:])
}

// Parse tells the ID of a text.
func Parse(s string) (api.ID, api.Fault) {
	for at := range len(s) {
		if value(s[at]) < 0 {
			return api.ID{}, api.Fault{Err: api.ErrBytes, At: at}
		}
	}
	if len(s) != textSize {
		return api.ID{}, api.Fault{Err: api.ErrBytes, At: min(len(s), textSize)}
	}
	var id api.ID
	for i := range id {
		id[i] = byte(16*value(s[2*i]) + value(s[2*i+1]))
	}
	return id, api.Fault{}
}

// value tells the value of a digit, -1 of what is none.
func value(digit byte) int { return strings.IndexByte(digits, digit) }
