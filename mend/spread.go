package mend

import "pecia/api"

// Spread returns the flaws that copies have.
func Spread(t api.Tour, m api.Mending, l []api.Taker) ([][]int, api.Errno) {
	if e := Check(t); e != api.OK {
		return nil, e
	}
	if _, are := planBy(t, m.On); !are {
		return nil, api.ErrArg
	}
	if e := checkTakers(t, l); e != api.OK {
		return nil, e
	}
	at := indices(t)
	var all [][]int
	for _, c := range l {
		var has []int
		for _, id := range c.Flaws {
			if day := m.On[at[id]]; day == none || day >= c.Day {
				has = append(has, id)
			}
		}
		all = append(all, has)
	}
	return all, api.OK
}

// checkTakers returns the first error of copies.
func checkTakers(t api.Tour, l []api.Taker) api.Errno {
	if len(l) > api.MaxTakers {
		return api.ErrLimit
	}
	seen := map[int]bool{}
	for _, c := range l {
		if !within(c.ID, 1, api.MaxID) || !isDay(t, c.Day) || !areFlaws(t, c.Flaws) {
			return api.ErrArg
		}
		if seen[c.ID] {
			return api.ErrTwice
		}
		seen[c.ID] = true
	}
	return api.OK
}
