package slip

import (
	"slices"

	"pecia/api"
)

// unreached is greater than what any list costs.
const unreached = 1 << 40

// A table has a number for each place of a copying.
type table [][]int

// tableOf returns a table in which a closure tells the numbers of all places.
func tableOf(c api.Copying, number func(place) int) table {
	t := make(table, len(c.Text)+1)
	for at := range t {
		t[at] = make([]int, len(c.Copy)+1)
		for in := range t[at] {
			t[at][in] = number(place{at, in})
		}
	}
	return t
}

func (t table) of(p place) int { return t[p.at][p.in] }

func (t table) lower(p place, number int) { t[p.at][p.in] = min(t.of(p), number) }

// A chart has the steps of a copying, and what the cheapest ways cost: from the first place to each one, and from each one to the last.
type chart struct {
	steps         []step
	ahead, behind table
}

// chartOf returns the chart of a copying; or the error of Check.
func chartOf(c api.Copying) (chart, api.Errno) {
	if e := Check(c); e != api.OK {
		return chart{}, e
	}
	zeroAt := func(end place) table {
		return tableOf(c, func(p place) int {
			if p == end {
				return 0
			}
			return unreached
		})
	}
	ch := chart{
		steps:  slices.Collect(steps(c)),
		ahead:  zeroAt(place{}),
		behind: zeroAt(place{len(c.Text), len(c.Copy)}),
	}
	for _, s := range ch.steps {
		ch.ahead.lower(s.to, ch.ahead.of(s.from)+s.cost)
	}
	for k := range len(ch.steps) {
		s := ch.steps[len(ch.steps)-1-k]
		ch.behind.lower(s.from, ch.behind.of(s.to)+s.cost)
	}
	return ch, api.OK
}

// least returns what a cheapest list costs.
func (ch chart) least() int { return ch.behind.of(place{}) }

// with returns what a list costs at least that has a step.
func (ch chart) with(s step) int { return ch.ahead.of(s.from) + s.cost + ch.behind.of(s.to) }

// leastWith returns what a list costs at least that has one of some steps, less what a cheapest list costs; ErrNone if there is no such step.
func (ch chart) leastWith(some func(step) bool) (int, api.Errno) {
	cost := unreached
	for _, s := range ch.steps {
		if some(s) {
			cost = min(cost, ch.with(s))
		}
	}
	if cost == unreached {
		return 0, api.ErrNone
	}
	return cost - ch.least(), api.OK
}

// cheapest returns the steps that cheapest lists have, in order.
func (ch chart) cheapest() []step {
	var l []step
	for _, s := range ch.steps {
		if ch.with(s) == ch.least() {
			l = append(l, s)
		}
	}
	return l
}

// stepBy returns the step that leads on by a slip, if there is one.
func (ch chart) stepBy(slip api.Slip) (step, bool) {
	for _, s := range ch.steps {
		if s.isSlip() && s.slip == slip {
			return s, true
		}
	}
	return step{}, false
}
