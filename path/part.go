package path

import (
	"iter"
	"strings"

	"satchel/api"
)

// parts yields each part of a text, and at which byte of it the part begins. No bytes are one part without any.
func parts(s string) iter.Seq2[int, string] {
	return func(yield func(int, string) bool) {
		for rest, more := s, true; more; {
			at := len(s) - len(rest)
			var part string
			part, rest, more = strings.Cut(rest, between)
			if !yield(at, part) {
				return
			}
		}
	}
}

// checkPart tells what is wrong with a part.
func checkPart(part string) api.Fault {
	if part == "" || part == "." || part == ".." {
		return api.Fault{Err: api.ErrArg}
	}
	for at := range len(part) {
		if !mayStand(part[at]) {
			return api.Fault{Err: api.ErrBytes, At: at}
		}
	}
	if len(part) > api.MaxStep {
		return api.Fault{Err: api.ErrLong, At: api.MaxStep}
	}
	return api.Fault{}
}

func isPart(s string) bool { return checkPart(s).Err == api.OK }

// mayStand tells whether a byte may stand in a part.
func mayStand(c byte) bool { return c > ' ' && c <= '~' && c != between[0] }
