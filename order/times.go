package order

import (
	"cmp"
	"iter"

	"pecia/api"
)

// scribe is a scribe in an order, and when it begins each piece.
type scribe struct {
	api.Runner
	begins []int
}

func (s scribe) end(piece int) int { return s.begins[piece] + s.Takes[piece] }

// done returns the day on which the last stint of a scribe ends.
func (s scribe) done() int { return s.end(len(s.Takes) - 1) }

// plan is an order, and its scribes with their times.
type plan struct {
	order   api.Order
	scribes []scribe
}

func planOf(o api.Order) plan {
	p := plan{order: o}
	for n, begins := range timesOf(o) {
		p.scribes = append(p.scribes, scribe{o.Runners[n], begins})
	}
	return p
}

func (p plan) begin(s api.Stint) int { return p.scribes[s.Runner].begins[s.Piece] }

func (p plan) end(s api.Stint) int { return p.scribes[s.Runner].end(s.Piece) }

// timesOf returns when each stint of an order begins.
func timesOf(o api.Order) [][]int {
	var ends [api.MaxRunners][api.MaxStages]int
	begin := func(s api.Stint) int {
		r := o.Runners[s.Runner]
		// Behind the first piece the arrival is no later than the end of the piece before.
		days := []int{r.Arrives}
		for b := range before(o, s) {
			days = append(days, ends[b.Runner][b.Piece])
		}
		day := greatest(days, cmp.Compare[int])
		ends[s.Runner][s.Piece] = day + r.Takes[s.Piece]
		return day
	}
	times := make([][]int, len(o.Runners))
	for s := range stints(o) {
		times[s.Runner] = append(times[s.Runner], begin(s))
	}
	return times
}

// stints yields all stints of an order, by scribe, then by piece.
func stints(o api.Order) iter.Seq[api.Stint] {
	return func(yield func(api.Stint) bool) {
		for n := range o.Runners {
			for j := range o.Copies {
				if !yield(api.Stint{Runner: n, Piece: j}) {
					return
				}
			}
		}
	}
}

// before yields the stints that end before a stint begins, or on that day: the one with the piece before, and the one that had the copy before.
func before(o api.Order, s api.Stint) iter.Seq[api.Stint] {
	return func(yield func(api.Stint) bool) {
		if s.Piece > 0 && !yield(api.Stint{Runner: s.Runner, Piece: s.Piece - 1}) {
			return
		}
		if n := s.Runner - o.Copies[s.Piece]; n >= 0 {
			yield(api.Stint{Runner: n, Piece: s.Piece})
		}
	}
}

// greatest returns the greatest of some things, the first one of those that are alike; the zero value, if there are none.
func greatest[T any](l []T, compare func(a, b T) int) T {
	var most T
	for i, x := range l {
		if i == 0 || compare(x, most) > 0 {
			most = x
		}
	}
	return most
}

// Times returns the days on which each scribe begins each piece.
func Times(o api.Order) ([][]int, api.Errno) {
	if e := Check(o); e != api.OK {
		return nil, e
	}
	return timesOf(o), api.OK
}

// End returns the day on which all have ended.
func End(o api.Order) (int, api.Errno) {
	if e := Check(o); e != api.OK {
		return 0, e
	}
	return endOf(o), api.OK
}

func endOf(o api.Order) int {
	var days []int
	for _, s := range planOf(o).scribes {
		days = append(days, s.done())
	}
	return greatest(days, cmp.Compare[int])
}
