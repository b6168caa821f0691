package field

import (
	"bytes"

	"satchel/api"
)

// Writer writes. New makes it.
type Writer struct {
	self *Writer // tells a writer that New made from a zero one and from a copy, which would share what was written
	out  []byte
	bad  bool // a number was none
}

// New makes a writer.
func New() *Writer {
	w := &Writer{}
	w.self = w
	return w
}

func (w *Writer) made() bool { return w != nil && w.self == w }

// Int writes a number.
func (w *Writer) Int(n int) {
	if !w.made() {
		return
	}
	if !isNumber(n) {
		w.bad = true
		return
	}
	w.out = append(w.out, parts(n)...)
}

// Bytes writes a byte string.
func (w *Writer) Bytes(b []byte) {
	if !w.made() {
		return
	}
	w.Int(len(b))
	w.out = append(w.out, b...)
}

// Text writes a text.
func (w *Writer) Text(s string) { w.Bytes([]byte(s)) }

// ID writes an ID.
func (w *Writer) ID(id api.ID) {
	if !w.made() {
		return
	}
	w.out = append(w.out, id[:]...)
}

// Out tells all that was written.
func (w *Writer) Out() ([]byte, api.Errno) {
	if !w.made() {
		return nil, api.ErrNil
	}
	if w.bad {
		return nil, api.ErrRange
	}
	return bytes.Clone(w.out), api.OK
}
