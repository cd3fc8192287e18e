package hire

import (
	"slices"

	"pecia/api"
)

// CheckMarket returns the first error of a market.
func CheckMarket(m api.Market) api.Errno {
	scribes := len(m.Wishes)
	if scribes > api.MaxScribes {
		return api.ErrLimit
	}
	if scribes == 0 {
		return api.ErrArg
	}
	for scribe, wishes := range m.Wishes {
		if !areWithin(wishes, 0, scribes-1) || slices.Contains(wishes, scribe) {
			return api.ErrArg
		}
		if !areDifferent(wishes) {
			return api.ErrTwice
		}
	}
	return api.OK
}

// A liking reports whether a scribe likes a piece better than another one.
type liking func(piece, other int) bool

// likingsOf returns the likings of all scribes.
func likingsOf(m api.Market) []liking {
	var l []liking
	for scribe := range m.Wishes {
		l = append(l, likingOf(m, scribe))
	}
	return l
}

func likingOf(m api.Market, scribe int) liking {
	ranked := append(slices.Clone(m.Wishes[scribe]), scribe)
	rank := func(piece int) int {
		if at := slices.Index(ranked, piece); at >= 0 {
			return at
		}
		return len(ranked) // all others are liked alike
	}
	return func(piece, other int) bool { return rank(piece) < rank(other) }
}

// checkGets returns the first error of a market, and gets.
func checkGets(m api.Market, gets []int) api.Errno {
	if e := CheckMarket(m); e != api.OK {
		return e
	}
	if !isShuffled(gets, len(m.Wishes)) {
		return api.ErrArg
	}
	return api.OK
}

// Better reports whether nobody does worse, and somebody better, by one deal than by another one.
func Better(m api.Market, a, b []int) (bool, api.Errno) {
	if e := checkGets(m, a); e != api.OK {
		return false, e
	}
	if e := checkGets(m, b); e != api.OK {
		return false, e
	}
	better := false
	for scribe, likes := range likingsOf(m) {
		if likes(b[scribe], a[scribe]) {
			return false, api.OK
		}
		better = better || likes(a[scribe], b[scribe])
	}
	return better, api.OK
}

// Told returns a market in which a scribe tells other wishes.
func Told(m api.Market, scribe int, wishes []int) (api.Market, api.Errno) {
	if e := CheckMarket(m); e != api.OK {
		return api.Market{}, e
	}
	if !within(scribe, 0, len(m.Wishes)-1) {
		return api.Market{}, api.ErrArg
	}
	var told api.Market
	for other, l := range m.Wishes {
		if other == scribe {
			l = wishes
		}
		told.Wishes = append(told.Wishes, slices.Clone(l))
	}
	if e := CheckMarket(told); e != api.OK {
		return api.Market{}, e
	}
	return told, api.OK
}
