package link

import (
	"satchel/api"
	"satchel/frame"
	"satchel/inbox"
	"satchel/window"
)

// end is an end of either kind. What it is handed as a time is one.
type end interface {
	send(b []byte) api.Errno
	receive(b []byte, now int) ([][]byte, api.Errno)
	tick(now int) [][]byte
	standing() standing
}

// handler is a method by which ends of a kind handle a frame.
type handler[E end] func(x E, f api.Frame, now int) ([][]byte, api.Errno)

// standing is what is told of an end.
type standing struct{ state, session, boot, open, got int }

// side is what ends of both kinds have. Its window and its inbox are there while it is up.
type side struct {
	state, session, boot, size int
	window                     *window.Window
	inbox                      *inbox.Inbox
	owes                       bool // an acknowledgement
}

// rise begins a session, in which nothing was sent yet and nothing came.
func (s *side) rise() {
	s.state = api.LinkUp
	s.window, _ = window.New(s.size)
	s.inbox, _ = inbox.New(s.size)
	s.owes = false
}

// shut ends a session. What was under way is let go of: nobody will ask for it.
func (s *side) shut() {
	s.state = api.LinkShut
	s.window, s.inbox = nil, nil
}

func (s *side) isUp() bool { return s.state == api.LinkUp }

// isOf tells whether a frame is of what an end has: its session, and the boot with which it has it.
func (s *side) isOf(f api.Frame) bool {
	return s.isUp() && f.Session == s.session && f.Boot == s.boot
}

func (s *side) send(b []byte) api.Errno {
	switch {
	case !s.isUp():
		return api.ErrState
	case len(b) > api.MaxBody:
		return api.ErrLong
	}
	_, err := s.window.Push(b)
	return err
}

// ignore handles a frame that says nothing to an end.
func (s *side) ignore(api.Frame, int) ([][]byte, api.Errno) { return nil, api.ErrMissing }

// news takes what a Data or an Ack says. A body that came already, or too early, is no error: the other end sends it till it is told of an acknowledgement, so one is owed for it, too.
func (s *side) news(f api.Frame, now int) ([][]byte, api.Errno) {
	if _, err := s.window.Ack(f.Ack, now); err != api.OK {
		return nil, api.ErrRange
	}
	if f.Type == api.FrameAck {
		return nil, api.OK
	}
	s.owes = true
	told, _ := s.inbox.Take(f.Seq, f.Body)
	return told, api.OK
}

// due tells what goes now of a session: the bodies that are due, or an Ack. A body's frame acknowledges as well as an Ack does.
func (s *side) due(now int) [][]byte {
	if !s.isUp() {
		return nil
	}
	var l [][]byte
	for _, p := range s.window.Due(now) {
		l = append(l, put(api.Frame{Type: api.FrameData, Session: s.session, Boot: s.boot, Seq: p.Seq, Ack: s.got(), Body: p.Body}))
	}
	if len(l) == 0 && s.owes {
		l = append(l, put(api.Frame{Type: api.FrameAck, Session: s.session, Boot: s.boot, Ack: s.got()}))
	}
	s.owes = false
	return l
}

// got tells up to which number all came.
func (s *side) got() int { return s.inbox.Next() - 1 }

func (s *side) standing() standing {
	x := standing{state: s.state, session: s.session, boot: s.boot}
	if s.isUp() {
		x.open, x.got = s.window.Open(), s.got()
	}
	return x
}

// put tells a frame's bytes. Frames that ends make are as their types say: there is no error to tell.
func put(f api.Frame) []byte {
	b, _ := frame.Put(f)
	return b
}
