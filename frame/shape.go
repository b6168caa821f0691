package frame

import "satchel/api"

// need is whether frames have a thing.
type need int

const (
	none need = iota // it is 0
	free             // it is 0 or more
	must             // it is 1 or more
)

// holds tells whether n, which is not below 0, is as it is needed.
func (x need) holds(n int) bool {
	switch x {
	case none:
		return n == 0
	case must:
		return n >= 1
	}
	return true
}

// shape is what the frames of a type have; of a body, how many bytes.
type shape struct{ session, boot, seq, ack, body need }

// shapes are those of the types. The first one is of none.
var shapes = [...]shape{
	api.FrameSyn:     {session: must},
	api.FrameWelcome: {session: must, boot: must},
	api.FrameData:    {session: must, boot: must, seq: must, ack: free, body: free},
	api.FrameAck:     {session: must, boot: must, ack: free},
	api.FrameReset:   {session: must, boot: free},
}

// isType tells whether there is such a type.
func isType(n int) bool { return n >= api.FrameSyn && n < len(shapes) }

// fits tells whether a frame has what its type's have, and nothing else.
func (s shape) fits(f api.Frame) bool {
	return s.session.holds(f.Session) && s.boot.holds(f.Boot) && s.seq.holds(f.Seq) && s.ack.holds(f.Ack) && s.body.holds(len(f.Body))
}
