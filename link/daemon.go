package link

import (
	"slices"

	"satchel/api"
	"satchel/frame"
)

// maxResets is of how many sessions a daemon's end owes a Reset at most.
const maxResets = 8

// daemon is a daemon's end.
type daemon struct {
	side
	welcome bool  // one is owed
	resets  []int // the sessions of which one is owed, in the order in which they came to be
}

// daemonHandlers tells how a daemon's end handles frames, by their type.
func daemonHandlers() map[int]handler[*daemon] {
	return map[int]handler[*daemon]{
		api.FrameSyn:     (*daemon).syn,
		api.FrameWelcome: (*daemon).ignore,
		api.FrameData:    (*daemon).take,
		api.FrameAck:     (*daemon).take,
		api.FrameReset:   (*daemon).ignore,
	}
}

func (d *daemon) receive(b []byte, now int) ([][]byte, api.Errno) {
	f, err := frame.Read(b)
	if err != api.OK {
		return nil, err
	}
	return daemonHandlers()[f.Type](d, f, now)
}

// syn handles a Syn. An agent never takes a number that is below one which it had: such a one was on its way too long.
func (d *daemon) syn(f api.Frame, _ int) ([][]byte, api.Errno) {
	if f.Session < d.session {
		return d.refuse(f)
	}
	if f.Session > d.session {
		d.session = f.Session
		d.rise()
	}
	d.welcome = true
	return nil, api.OK
}

// take handles a Data, or an Ack.
func (d *daemon) take(f api.Frame, now int) ([][]byte, api.Errno) {
	if !d.isOf(f) {
		return d.refuse(f)
	}
	return d.news(f, now)
}

// refuse owes a Reset of a frame's session.
func (d *daemon) refuse(f api.Frame) ([][]byte, api.Errno) {
	if len(d.resets) < maxResets && !slices.Contains(d.resets, f.Session) {
		d.resets = append(d.resets, f.Session)
	}
	return nil, api.ErrMissing
}

func (d *daemon) tick(now int) [][]byte {
	var l [][]byte
	if d.welcome {
		l = append(l, put(api.Frame{Type: api.FrameWelcome, Session: d.session, Boot: d.boot}))
	}
	for _, session := range d.resets {
		l = append(l, put(api.Frame{Type: api.FrameReset, Session: session, Boot: d.boot}))
	}
	d.welcome, d.resets = false, nil
	return append(l, d.due(now)...)
}
