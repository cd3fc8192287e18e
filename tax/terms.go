package tax

import "pecia/api"

// checkTerms returns the first error of terms, and days late.
func checkTerms(t api.Terms, late int) api.Errno {
	switch {
	case !within(t.Free, 0, api.MaxDay):
		fallthrough
	case !within(t.Forfeit, t.Free, api.MaxDay):
		fallthrough
	case !isPrice(t.PerDay):
		fallthrough
	case !isPrice(t.Most):
		fallthrough
	case !within(late, 0, api.MaxDay):
		return api.ErrArg
	}
	return api.OK
}

// Fine returns the fine of a piece that came back late.
func Fine(t api.Terms, late int) (int, api.Errno) {
	if e := checkTerms(t, late); e != api.OK {
		return 0, e
	}
	return min(t.PerDay*max(late-t.Free, 0), t.Most), api.OK
}

// Bill returns what a hire costs.
func Bill(t api.Terms, price, pledge, weeks, late int) (api.Charge, api.Errno) {
	fine, e := Fine(t, late)
	if e != api.OK {
		return api.Charge{}, e
	}
	if !isPrice(price) || !isPrice(pledge) || !within(weeks, 0, api.MaxWeeks) {
		return api.Charge{}, api.ErrArg
	}
	charge := api.Charge{Hire: price * weeks, Fine: fine}
	if late > t.Forfeit {
		charge.Pledge = pledge
	}
	return charge, api.OK
}
