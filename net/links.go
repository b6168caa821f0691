package net

import "satchel/api"

// links is a set of links.
type links map[[2]int]struct{}

// link tells the link between two ends: the lower one first, since it is the same both ways.
func link(a, b int) [2]int { return [2]int{min(a, b), max(a, b)} }

func (l links) put(a, b int) { l[link(a, b)] = struct{}{} }

func (l links) drop(a, b int) { delete(l, link(a, b)) }

func (l links) has(a, b int) bool {
	_, is := l[link(a, b)]
	return is
}

// isEnd tells whether there is such an end.
func isEnd(n int) bool { return n >= 0 && n < api.MaxEnds }
