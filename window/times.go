package window

import (
	"satchel/api"
	"satchel/ratio"
)

// Which part of what is new goes into the mean, and into the spread.
const (
	meanPart   = 0.125
	spreadPart = 0.25
)

// times is how long answers take: their mean, and how far they lie from it.
type times struct{ mean, spread float64 }

// firstTimes tells the times of which nothing is known yet.
func firstTimes() times { return times{mean: 4, spread: 1} }

// learn takes how long an answer took. The spread goes first: it is held against the mean without it.
func (t *times) learn(took float64) {
	t.spread = ratio.Spread(t.spread, t.mean, took, spreadPart)
	t.mean = ratio.Mean(t.mean, took, meanPart)
}

// wait tells how long is waited for an answer to what is sent for the k-th time. It is doubled step by step, since 2 to the power of k may be beyond all numbers.
func (t times) wait(k int) int {
	wait := ratio.Wait(t.mean, t.spread)
	for ; k > 1 && wait < api.MostWait; k-- {
		wait *= 2
	}
	return min(wait, api.MostWait)
}
