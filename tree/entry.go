package tree

import (
	"bytes"

	"satchel/api"
	"satchel/path"
)

// mostMode is the greatest mode: all nine bits, to read, to write and to run.
const mostMode = 0o777

// checkEntry tells what is wrong with an entry, wherever it stands.
func checkEntry(e api.Entry) api.Errno {
	switch {
	case path.Check(e.Path).Err != api.OK:
		return api.ErrBytes
	case !fits(e):
		return api.ErrArg
	case len(e.Data) > api.MaxFile:
		return api.ErrLong
	}
	return api.OK
}

// fits tells whether an entry has a kind, a mode, and just what its kind may have.
func fits(e api.Entry) bool {
	if e.Mode < 0 || e.Mode > mostMode {
		return false
	}
	switch e.Kind {
	case api.Dir:
		return len(e.Data) == 0 && e.To == ""
	case api.File:
		return e.To == ""
	case api.Link:
		return len(e.Data) == 0 && e.To != "" && len(e.To) <= api.MaxPath
	}
	return false
}

// head is an entry but its bytes, which can't be compared by ==.
type head struct {
	path       string
	kind, mode int
	to         string
}

func headOf(e api.Entry) head { return head{e.Path, e.Kind, e.Mode, e.To} }

// alike tells whether each field of an entry is like the other's.
func alike(a, b api.Entry) bool {
	return headOf(a) == headOf(b) && bytes.Equal(a.Data, b.Data)
}

// own tells an entry with bytes of its own, so that it may be handed out.
func own(e api.Entry) api.Entry {
	e.Data = bytes.Clone(e.Data)
	return e
}

// ownAll gives each entry of a new list bytes of its own.
func ownAll(l []api.Entry) []api.Entry {
	for at, e := range l {
		l[at] = own(e)
	}
	return l
}
