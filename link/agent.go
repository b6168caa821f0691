package link

import (
	"satchel/api"
	"satchel/frame"
)

// agent is an agent's end.
type agent struct {
	side
	again int // from when on a Syn goes, while it is opening
}

// agentHandlers tells how an agent's end handles frames, by their type.
func agentHandlers() map[int]handler[*agent] {
	return map[int]handler[*agent]{
		api.FrameSyn:     (*agent).ignore,
		api.FrameWelcome: (*agent).welcome,
		api.FrameData:    (*agent).take,
		api.FrameAck:     (*agent).take,
		api.FrameReset:   (*agent).reset,
	}
}

func (a *agent) receive(b []byte, now int) ([][]byte, api.Errno) {
	if a.state == api.LinkShut {
		return nil, api.ErrState
	}
	f, err := frame.Read(b)
	switch {
	case err != api.OK:
		return nil, err
	case f.Session != a.session:
		return nil, api.ErrMissing
	}
	return agentHandlers()[f.Type](a, f, now)
}

// welcome handles a Welcome. One of another boot comes too late or too early: the session is up with its own one alone.
func (a *agent) welcome(f api.Frame, _ int) ([][]byte, api.Errno) {
	switch {
	case a.state == api.LinkOpening:
		a.boot = f.Boot
		a.rise()
	case f.Boot != a.boot:
		return nil, api.ErrMissing
	}
	return nil, api.OK
}

// take handles a Data, or an Ack.
func (a *agent) take(f api.Frame, now int) ([][]byte, api.Errno) {
	if !a.isOf(f) {
		return nil, api.ErrMissing
	}
	return a.news(f, now)
}

// reset handles a Reset, of whatever boot: a daemon that was opened anew says it with another one.
func (a *agent) reset(api.Frame, int) ([][]byte, api.Errno) {
	a.shut()
	return nil, api.OK
}

func (a *agent) tick(now int) [][]byte {
	if a.state == api.LinkOpening {
		return a.ask(now)
	}
	return a.due(now)
}

// ask tells a Syn, if one goes now.
func (a *agent) ask(now int) [][]byte {
	if now < a.again {
		return nil
	}
	a.again = now + api.LinkWait
	return [][]byte{put(api.Frame{Type: api.FrameSyn, Session: a.session})}
}
