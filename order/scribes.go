package order

import (
	"cmp"
	"slices"

	"pecia/api"
)

// Rate returns how many days lie between two scribes like one in the long run, and the piece by which that is so.
func Rate(o api.Order, runner int) (api.Ratio, int, api.Errno) {
	if e := checkRunner(o, runner); e != api.OK {
		return api.Ratio{}, 0, e
	}
	takes := o.Runners[runner].Takes
	var pieces []int
	for j := range takes {
		pieces = append(pieces, j)
	}
	piece := greatest(pieces, func(a, b int) int { return cmp.Compare(takes[a]*o.Copies[b], takes[b]*o.Copies[a]) })
	part := common(takes[piece], o.Copies[piece])
	return api.Ratio{Num: takes[piece] / part, Den: o.Copies[piece] / part}, piece, api.OK
}

// common returns the greatest number by which both numbers can be divided.
func common(a, b int) int {
	for b != 0 {
		a, b = b, a%b
	}
	return a
}

// Alike returns the day on which the last one of some scribes like one ends, if all of them arrive on its day.
func Alike(o api.Order, runner, many int) (int, api.Errno) {
	if e := checkRunner(o, runner); e != api.OK {
		return 0, e
	}
	if !within(many, 1, api.MaxRunners) {
		return 0, api.ErrArg
	}
	like := api.Order{Copies: o.Copies}
	for range many {
		like.Runners = append(like.Runners, o.Runners[runner])
	}
	return endOf(like), api.OK
}

// Johnson returns an order of scribes with which two pieces of one copy each end earliest.
func Johnson(o api.Order) ([]int, int, api.Errno) {
	if e := Check(o); e != api.OK {
		return nil, 0, e
	}
	if !slices.Equal(o.Copies, []int{1, 1}) || !arriveTogether(o) {
		return nil, 0, api.ErrState
	}
	best := copyOf(o)
	slices.SortStableFunc(best.Runners, compareRunners)
	ids := make([]int, len(best.Runners))
	for n, r := range best.Runners {
		ids[n] = r.ID
	}
	return ids, endOf(best), api.OK
}

func arriveTogether(o api.Order) bool {
	for _, r := range o.Runners {
		if r.Arrives != o.Runners[0].Arrives {
			return false
		}
	}
	return true
}

// compareRunners compares scribes by where they stand so that two pieces end earliest.
func compareRunners(a, b api.Runner) int {
	first := func(r api.Runner) bool { return r.Takes[0] < r.Takes[1] }
	switch {
	case first(a) && first(b):
		return cmp.Compare(a.Takes[0], b.Takes[0])
	case first(a):
		return -1
	case first(b):
		return 1
	}
	return cmp.Compare(b.Takes[1], a.Takes[1])
}
