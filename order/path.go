package order

import (
	"slices"

	"pecia/api"
)

// Path returns stints that show that a stint cannot begin earlier.
func Path(o api.Order, s api.Stint) ([]api.Stint, api.Errno) {
	if e := checkStint(o, s); e != api.OK {
		return nil, e
	}
	return planOf(o).pathTo(s), api.OK
}

// pathTo goes back from a stint to one that waits for none: it begins on the day on which its scribe arrives.
func (p plan) pathTo(s api.Stint) []api.Stint {
	path := []api.Stint{s}
back:
	for b := range before(p.order, s) {
		if p.end(b) == p.begin(s) {
			s = b
			path = append(path, s)
			goto back
		}
	}
	slices.Reverse(path)
	return path
}

// CheckPath returns OK if stints show that the last one cannot begin before a day.
func CheckPath(o api.Order, path []api.Stint, day int) api.Errno {
	if e := Check(o); e != api.OK {
		return e
	}
	if len(path) > api.MaxStages+api.MaxRunners {
		return api.ErrLimit
	}
	if !isPath(o, path) || shownBy(o, path) != day {
		return api.ErrProof
	}
	return api.OK
}

func isPath(o api.Order, path []api.Stint) bool {
	for i, s := range path {
		if !isStint(o, s) || i > 0 && !isBefore(o, path[i-1], s) {
			return false
		}
	}
	return len(path) > 0 && path[0].Piece == 0
}

func isBefore(o api.Order, a, s api.Stint) bool {
	for b := range before(o, s) {
		if a == b {
			return true
		}
	}
	return false
}

// shownBy returns the day that a path shows.
func shownBy(o api.Order, path []api.Stint) int {
	day := o.Runners[path[0].Runner].Arrives
	for _, s := range path[:len(path)-1] {
		day += o.Runners[s.Runner].Takes[s.Piece]
	}
	return day
}
