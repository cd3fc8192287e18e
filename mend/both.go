package mend

import "pecia/api"

// planForTwo returns the plan of a tour with a second corrector on which nothing is mended; or the first error.
func planForTwo(t api.Tour, other []int) (plan, api.Errno) {
	if e := Check(t); e != api.OK {
		return plan{}, e
	}
	if !areDays(t, other) {
		return plan{}, api.ErrArg
	}
	return planOf(t, t.Closed, other), api.OK
}

// Both returns the best days for two correctors, who mends each flaw, and what they are worth.
func Both(t api.Tour, other []int) ([]int, []int, int, api.Errno) {
	p, e := planForTwo(t, other)
	if e != api.OK {
		return nil, nil, 0, e
	}
	p.mend()
	var on, by []int
	for i := range t.Flaws {
		day, who := p.dayOf(i), none
		if day != none {
			day, who = day%api.MaxTour, day/api.MaxTour
		}
		on, by = append(on, day), append(by, who)
	}
	return on, by, p.worth(), api.OK
}

// CheckBoth returns what days for two correctors are worth.
func CheckBoth(t api.Tour, other, on, by []int) (int, api.Errno) {
	p, e := planForTwo(t, other)
	if e != api.OK {
		return 0, e
	}
	if len(on) != len(t.Flaws) || len(by) != len(t.Flaws) {
		return 0, api.ErrArg
	}
	for i, day := range on {
		isMended := day != none || by[i] != none
		if isMended && !p.put(i, by[i], day) {
			return 0, api.ErrProof
		}
	}
	return p.worth(), api.OK
}
