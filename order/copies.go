package order

import (
	"cmp"
	"iter"

	"pecia/api"
)

// Save returns how many days earlier all end with one more copy of a piece.
func Save(o api.Order, piece int) (int, api.Errno) {
	more, e := More(o, piece)
	if e != api.OK {
		return 0, e
	}
	return endOf(o) - endOf(more), api.OK
}

// Need returns the fewest copies of a piece with which all end by a day.
func Need(o api.Order, piece, by int) (int, api.Errno) {
	if e := checkPiece(o, piece); e != api.OK {
		return 0, e
	}
	if !within(by, 0, lastBy) {
		return 0, api.ErrArg
	}
	// One copy more can make the end later, so that all smaller numbers have to be tried.
	tried := copyOf(o)
	for fewer := range api.MaxSame {
		tried.Copies[piece] = fewer + 1
		if endOf(tried) <= by {
			return fewer + 1, api.OK
		}
	}
	return 0, api.ErrNone
}

// Fewest returns the fewest copies of all pieces with which all end by a day.
func Fewest(o api.Order, by int) ([]int, api.Errno) {
	if e := checkBy(o, by); e != api.OK {
		return nil, e
	}
	if len(o.Copies) > api.MaxTried || len(o.Runners) > api.MaxTried+2 {
		return nil, api.ErrLimit
	}
	var fewest []int
	least := 0
	for copies := range choices(len(o.Copies), max(1, len(o.Runners))) {
		n := sum(copies)
		if (fewest == nil || n < least) && endOf(api.Order{Copies: copies, Runners: o.Runners}) <= by {
			fewest, least = numbers(copies), n
		}
	}
	if fewest == nil {
		return nil, api.ErrNone
	}
	return fewest, api.OK
}

// choices yields all lists of so many numbers from 1 to the most, the first ones first; each one is in the memory of the one before it.
func choices(long, most int) iter.Seq[[]int] {
	return func(yield func([]int) bool) {
		l := make([]int, long)
		for i := range l {
			l[i] = 1
		}
		for more := true; more; more = next(l, most) {
			if !yield(l) {
				return
			}
		}
	}
}

// next makes a list of numbers from 1 to the most the one behind it; it reports false behind the last one.
func next(l []int, most int) bool {
	for back := range len(l) {
		i := len(l) - 1 - back
		if l[i] < most {
			l[i]++
			return true
		}
		l[i] = 1
	}
	return false
}

func sum(l []int) int {
	n := 0
	for _, x := range l {
		n += x
	}
	return n
}

// Ample returns the day on which all would end if nobody had to wait.
func Ample(o api.Order) (int, api.Errno) {
	if e := Check(o); e != api.OK {
		return 0, e
	}
	var days []int
	for _, r := range o.Runners {
		days = append(days, r.Arrives+sum(r.Takes))
	}
	return greatest(days, cmp.Compare[int]), api.OK
}
