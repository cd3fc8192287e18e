package order

import "pecia/api"

// Latest returns the days on which each scribe must begin each piece at the latest, so that all end by a day.
func Latest(o api.Order, by int) ([][]int, api.Errno) {
	if e := checkBy(o, by); e != api.OK {
		return nil, e
	}
	if endOf(o) > by {
		return nil, api.ErrNone
	}
	return latestOf(o, by), api.OK
}

// latestOf goes down from the last stint, and lets each one that comes before another one end on the day on which that begins.
func latestOf(o api.Order, by int) [][]int {
	ends := make([][]int, len(o.Runners))
	for n := range ends {
		for range o.Copies {
			ends[n] = append(ends[n], by)
		}
	}
	begins := make([][]int, len(o.Runners))
	for behind := range o.Runners {
		n := len(o.Runners) - 1 - behind
		begins[n] = make([]int, len(o.Copies))
		for further := range len(o.Copies) {
			s := api.Stint{Runner: n, Piece: len(o.Copies) - 1 - further}
			day := ends[n][s.Piece] - o.Runners[n].Takes[s.Piece]
			for b := range before(o, s) {
				ends[b.Runner][b.Piece] = min(ends[b.Runner][b.Piece], day)
			}
			begins[n][s.Piece] = day
		}
	}
	return begins
}

// slacks returns by how many days each stint can begin later without the whole ending later.
func slacks(o api.Order) [][]int {
	slack := latestOf(o, endOf(o))
	for n, begins := range timesOf(o) {
		for j, day := range begins {
			slack[n][j] -= day
		}
	}
	return slack
}

// Slack returns by how many days a stint can begin later without the whole ending later.
func Slack(o api.Order, s api.Stint) (int, api.Errno) {
	if e := checkStint(o, s); e != api.OK {
		return 0, e
	}
	return slacks(o)[s.Runner][s.Piece], api.OK
}

// Critical returns the stints that can begin no later.
func Critical(o api.Order) ([]api.Stint, api.Errno) {
	if e := Check(o); e != api.OK {
		return nil, e
	}
	slack := slacks(o)
	return chosen(o, func(s api.Stint) bool { return slack[s.Runner][s.Piece] == 0 }), api.OK
}
