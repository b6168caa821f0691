package roll

import "satchel/api"

// Roller has a window that rolls. New makes it.
type Roller struct {
	made bool // not a pointer to itself: a copy of a roller must roll on by itself, so that it can be embedded by value
	ring [api.Window]byte
	came int
	sum  uint32
}

// New makes a roller with an empty window.
func New() *Roller { return &Roller{made: true} }

// Push rolls a byte in, and tells the sum of the window.
func (r *Roller) Push(c byte) uint32 {
	if r == nil || !r.made {
		return 0
	}
	place := &r.ring[r.came%len(r.ring)]
	if r.Full() {
		r.sum = Roll(r.sum, *place, c)
	} else {
		r.sum = longer(r.sum, c)
	}
	*place = c
	r.came++
	return r.sum
}

// Sum tells the sum of the window.
func (r *Roller) Sum() uint32 {
	if r == nil {
		return 0
	}
	return r.sum
}

// Full tells whether the window is full.
func (r *Roller) Full() bool { return r != nil && r.came >= len(r.ring) }
