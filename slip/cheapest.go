package slip

import (
	"slices"

	"pecia/api"
)

// maxNumber is the greatest number of a table.
const maxNumber = 1 << 40

// Best returns a cheapest list of slips, with a table that proves it.
func Best(c api.Copying) (api.Account, api.Errno) {
	ch, e := chartOf(c)
	if e != api.OK {
		return api.Account{}, e
	}
	best := api.Account{Cost: ch.least(), Table: ch.ahead}
	var at place
	for _, s := range ch.cheapest() {
		if s.from != at {
			continue
		}
		if s.isSlip() {
			best.Slips = append(best.Slips, s.slip)
		}
		at = s.to
	}
	return best, api.OK
}

// CheckBest returns OK if an account is right.
func CheckBest(c api.Copying, a api.Account) api.Errno {
	if e := Check(c); e != api.OK {
		return e
	}
	cost, is := explains(c, a.Slips)
	if !is || cost != a.Cost || !proves(c, a.Table, cost) {
		return api.ErrProof
	}
	return api.OK
}

// proves reports whether a table proves that no list costs less.
func proves(c api.Copying, t table, cost int) bool {
	if !isTable(c, t) || t.of(place{}) != 0 || t.of(place{len(c.Text), len(c.Copy)}) != cost {
		return false
	}
	for s := range steps(c) {
		if t.of(s.to) > t.of(s.from)+s.cost {
			return false
		}
	}
	return true
}

// isTable reports whether a table has a number for each place.
func isTable(c api.Copying, t table) bool {
	if len(t) != len(c.Text)+1 {
		return false
	}
	for _, row := range t {
		if len(row) != len(c.Copy)+1 || slices.Min(row) < 0 || slices.Max(row) > maxNumber {
			return false
		}
	}
	return true
}

// Least returns what a cheapest list of slips costs.
func Least(c api.Copying) (int, api.Errno) {
	ch, e := chartOf(c)
	if e != api.OK {
		return 0, e
	}
	return ch.least(), api.OK
}

// Second returns the least cost of a list of slips that is greater than Least.
func Second(c api.Copying) (int, api.Errno) {
	ch, e := chartOf(c)
	if e != api.OK {
		return 0, e
	}
	// A list all of whose steps are ones of cheapest lists costs as little as these.
	more, e := ch.leastWith(func(s step) bool { return ch.with(s) > ch.least() })
	if e != api.OK {
		return 0, e
	}
	return ch.least() + more, api.OK
}

// Count returns how many cheapest lists of slips there are.
func Count(c api.Copying) (int, api.Errno) {
	ch, e := chartOf(c)
	if e != api.OK {
		return 0, e
	}
	last := place{len(c.Text), len(c.Copy)}
	ways := map[place]int{{}: 1}
counting:
	for _, s := range ch.cheapest() {
		ways[s.to] += ways[s.from]
		if ways[s.to] >= api.MaxLists {
			ways[last] = api.MaxLists // each of the ways leads on to the last place
			break counting
		}
	}
	return ways[last], api.OK
}

// Surely returns the slips of all cheapest lists: those that alone cross a level.
func Surely(c api.Copying) ([]api.Slip, api.Errno) {
	ch, e := chartOf(c)
	if e != api.OK {
		return nil, e
	}
	cheapest := ch.cheapest()
	crossing := map[int]int{} // how many steps cross each level
	for _, s := range cheapest {
		for level := s.from.level(); s.crosses(level); level++ {
			crossing[level]++
		}
	}
	var l []api.Slip
	for _, s := range cheapest {
		if s.isSlip() && crossing[s.from.level()] == 1 {
			l = append(l, s.slip)
		}
	}
	return l, api.OK
}

// Possibly returns the slips of some cheapest list.
func Possibly(c api.Copying) ([]api.Slip, api.Errno) {
	ch, e := chartOf(c)
	if e != api.OK {
		return nil, e
	}
	var l []api.Slip
	for _, s := range ch.cheapest() {
		if s.isSlip() {
			l = append(l, s.slip)
		}
	}
	return l, api.OK
}

// Made returns how much more it costs at least if a slip happened.
func Made(c api.Copying, s api.Slip) (int, api.Errno) {
	ch, e := chartOf(c)
	if e != api.OK {
		return 0, e
	}
	own, is := ch.stepBy(s)
	if !is {
		return 0, api.ErrNone
	}
	return ch.with(own) - ch.least(), api.OK
}

// Missed returns how much more it costs at least if a slip did not happen.
func Missed(c api.Copying, s api.Slip) (int, api.Errno) {
	ch, e := chartOf(c)
	if e != api.OK {
		return 0, e
	}
	own, is := ch.stepBy(s)
	if !is {
		return 0, api.OK
	}
	// The lists without the slip are those that cross its level by another step.
	return ch.leastWith(func(s step) bool { return s != own && s.crosses(own.from.level()) })
}

// Places returns between which ends the copy stands when some words of the text are done.
func Places(c api.Copying, at int) (api.Span, api.Errno) {
	ch, e := chartOf(c)
	if e != api.OK {
		return api.Span{}, e
	}
	if !within(at, 0, len(c.Text)) {
		return api.Span{}, api.ErrArg
	}
	if at == 0 { // all lists begin there
		return api.Span{}, api.OK
	}
	ends := api.Span{Lo: len(c.Copy), Hi: 0}
	for _, s := range ch.cheapest() {
		if s.passes(at - 1) {
			ends = api.Span{Lo: min(ends.Lo, s.to.in), Hi: max(ends.Hi, s.to.in)}
		}
	}
	return ends, api.OK
}

// Kept returns the words of the text that are kept in all cheapest lists, and in some.
func Kept(c api.Copying) ([]int, []int, api.Errno) {
	ch, e := chartOf(c)
	if e != api.OK {
		return nil, nil, e
	}
	cheapest := ch.cheapest()
	var all, some []int
	for word := range c.Text {
		kept, passed := 0, 0
		for _, s := range cheapest {
			if s.passes(word) {
				passed++
				if !s.isSlip() {
					kept++
				}
			}
		}
		if kept == passed {
			all = append(all, word)
		}
		if kept > 0 {
			some = append(some, word)
		}
	}
	return all, some, api.OK
}
