package order

import (
	"slices"

	"pecia/api"
)

// copyOf returns an order that shares no memory with the one that it is made from.
func copyOf(o api.Order) api.Order {
	c := api.Order{Copies: numbers(o.Copies), Runners: make([]api.Runner, len(o.Runners))}
	copy(c.Runners, o.Runners)
	for n, r := range c.Runners {
		c.Runners[n].Takes = numbers(r.Takes)
	}
	return c
}

// numbers returns a copy of numbers. (What is appended to a slice without capacity goes to new memory.)
func numbers(l []int) []int { return append(l[:0:0], l...) }

// Delayed returns an order in which a stint takes more days.
func Delayed(o api.Order, s api.Stint, days int) (api.Order, api.Errno) {
	if e := checkStint(o, s); e != api.OK {
		return api.Order{}, e
	}
	if !within(days, 0, api.MaxTakes) {
		return api.Order{}, api.ErrArg
	}
	late := copyOf(o)
	late.Runners[s.Runner].Takes[s.Piece] += days
	if late.Runners[s.Runner].Takes[s.Piece] > api.MaxTakes {
		return api.Order{}, api.ErrLimit
	}
	return late, api.OK
}

// Reach returns the stints that begin later if one takes more days.
func Reach(o api.Order, s api.Stint, days int) ([]api.Stint, api.Errno) {
	late, e := Delayed(o, s, days)
	if e != api.OK {
		return nil, e
	}
	first, then := planOf(o), planOf(late)
	return chosen(o, func(s api.Stint) bool { return then.begin(s) > first.begin(s) }), api.OK
}

// More returns an order with one more copy of a piece.
func More(o api.Order, piece int) (api.Order, api.Errno) {
	if e := checkPiece(o, piece); e != api.OK {
		return api.Order{}, e
	}
	if o.Copies[piece] == api.MaxSame {
		return api.Order{}, api.ErrLimit
	}
	more := copyOf(o)
	more.Copies[piece]++
	return more, api.OK
}

// Swap returns an order in which a scribe and the next one are exchanged.
func Swap(o api.Order, runner int) (api.Order, api.Errno) {
	if e := checkRunner(o, runner); e != api.OK {
		return api.Order{}, e
	}
	if runner == len(o.Runners)-1 {
		return api.Order{}, api.ErrNone
	}
	other := copyOf(o)
	l := other.Runners
	l[runner], l[runner+1] = l[runner+1], l[runner]
	return other, api.OK
}

// Without returns an order without a scribe.
func Without(o api.Order, runner int) (api.Order, api.Errno) {
	if e := checkRunner(o, runner); e != api.OK {
		return api.Order{}, e
	}
	less := copyOf(o)
	less.Runners = slices.Delete(less.Runners, runner, runner+1)
	return less, api.OK
}

// Merge returns the order in which the scribes of another one come behind those of one.
func Merge(a, b api.Order) (api.Order, api.Errno) {
	if e := Check(a); e != api.OK {
		return api.Order{}, e
	}
	if e := Check(b); e != api.OK {
		return api.Order{}, e
	}
	if !slices.Equal(a.Copies, b.Copies) {
		return api.Order{}, api.ErrState
	}
	both := copyOf(a)
	both.Runners = append(both.Runners, copyOf(b).Runners...)
	if e := Check(both); e != api.OK {
		return api.Order{}, e
	}
	return both, api.OK
}
