package chunk

import (
	"iter"
	"slices"

	"satchel/api"
	"satchel/roll"
)

// Cutter cuts bytes that come in pieces. New makes it.
type Cutter struct {
	self *Cutter // tells a cutter that New made from a zero one and from a copy, which would share what is left
	rolling
	left []byte // what came of the chunk that has not ended
	over bool
}

// rolling is a roller by value, as a type of its own: a cutter that embedded a roller itself would have a roller's exported calls.
type rolling roll.Roller

// New makes a cutter without bytes.
func New() *Cutter {
	c := &Cutter{rolling: rolling(*roll.New())}
	c.self = c
	return c
}

func (c *Cutter) made() bool { return c != nil && c.self == c }

// Push takes bytes, and tells the chunks that ended within them.
func (c *Cutter) Push(b []byte) ([][]byte, api.Errno) {
	if err := c.closed(); err != api.OK {
		return nil, err
	}
	return slices.Collect(c.ended(b)), api.OK
}

// End tells what is left: the last chunk.
func (c *Cutter) End() ([]byte, api.Errno) {
	if err := c.closed(); err != api.OK {
		return nil, err
	}
	c.over = true
	return c.taken(), api.OK
}

// Left tells how many bytes came that no chunk had that was told.
func (c *Cutter) Left() int {
	if !c.made() {
		return 0
	}
	return len(c.left)
}

// closed tells why a cutter takes nothing; OK: it does.
func (c *Cutter) closed() api.Errno {
	switch {
	case !c.made():
		return api.ErrNil
	case c.over:
		return api.ErrState
	default:
		return api.OK
	}
}

// ended takes bytes, and yields each chunk as it ends. The sum is not begun anew behind an end: where it is asked for, all bytes of its window are the chunk's own.
func (c *Cutter) ended(b []byte) iter.Seq[[]byte] {
	return func(yield func([]byte) bool) {
		for _, x := range b {
			c.left = append(c.left, x)
			if isEnd(len(c.left), c.push(x)) && !yield(c.taken()) {
				return
			}
		}
	}
}

// taken tells what is left, which the cutter then has no longer: it is handed out, and what comes behind it must not be laid into its room.
func (c *Cutter) taken() []byte {
	chunk := c.left
	c.left = nil
	return chunk
}

// push rolls a byte in, and tells the sum of the last ones.
func (r *rolling) push(x byte) uint32 { return (*roll.Roller)(r).Push(x) }
