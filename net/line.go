package net

import (
	"iter"

	"satchel/api"
)

// container holds a datagram that is on its way.
type container struct {
	ahead, behind *container
	held          api.Datagram
}

// line is the datagrams that are on their way. Its containers are a ring that one closes which holds none, so that each stands between two and no end is a case of its own.
type line struct {
	gap  container
	size int
}

// newLine makes a line without datagrams.
func newLine() *line {
	l := &line{}
	l.gap.ahead, l.gap.behind = &l.gap, &l.gap
	return l
}

// all yields each container that holds a datagram, with its place, in order.
func (l *line) all() iter.Seq2[int, *container] {
	return func(yield func(int, *container) bool) {
		place := 0
		for c := l.gap.behind; c != &l.gap; c = c.behind {
			if !yield(place, c) {
				return
			}
			place++
		}
	}
}

// at tells the container at a place; nil: there is none.
func (l *line) at(place int) *container {
	for i, c := range l.all() {
		if i == place {
			return c
		}
	}
	return nil
}

// add lays a datagram behind all others.
func (l *line) add(x api.Datagram) {
	c := &container{ahead: l.gap.ahead, behind: &l.gap, held: x}
	c.ahead.behind, c.behind.ahead = c, c
	l.size++
}

// remove takes a container out of the line.
func (l *line) remove(c *container) {
	c.ahead.behind, c.behind.ahead = c.behind, c.ahead
	l.size--
}
