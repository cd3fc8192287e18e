package order

import "pecia/api"

// Waits returns how many days each scribe waits.
func Waits(o api.Order) ([]int, api.Errno) {
	if e := Check(o); e != api.OK {
		return nil, e
	}
	waits := make([]int, len(o.Runners))
	for n, s := range planOf(o).scribes {
		free := s.Arrives
		for j, day := range s.begins {
			waits[n] += day - free
			free = s.end(j)
		}
	}
	return waits, api.OK
}

// Idle returns how many days the copies of each piece lie idle.
func Idle(o api.Order) ([]int, api.Errno) {
	if e := Check(o); e != api.OK {
		return nil, e
	}
	p := planOf(o)
	idle := make([]int, len(o.Copies))
	for s := range stints(o) {
		for b := range before(o, s) {
			if b.Piece == s.Piece {
				idle[s.Piece] += p.begin(s) - p.end(b)
			}
		}
	}
	return idle, api.OK
}

// Hold returns the stints that are under way on a day.
func Hold(o api.Order, day int) ([]api.Stint, api.Errno) {
	if e := checkBy(o, day); e != api.OK {
		return nil, e
	}
	p := planOf(o)
	return chosen(o, func(s api.Stint) bool { return within(day, p.begin(s), p.end(s)-1) }), api.OK
}

// chosen returns the stints of an order of which something is so, by scribe, then by piece.
func chosen(o api.Order, so func(api.Stint) bool) []api.Stint {
	var l []api.Stint
	for s := range stints(o) {
		if so(s) {
			l = append(l, s)
		}
	}
	return l
}
