package hire

import (
	"slices"

	"pecia/api"
)

// Stuck returns the scribes that wait for each other behind a day.
func Stuck(h api.Hires, day int) ([]int, api.Errno) {
	r, e := behind(h, day)
	if e != api.OK {
		return nil, e
	}
	return r.stuck(), api.OK
}

// stuck returns all scribes that belong to some that wait for each other. Who does not wait for the ones left waits for no part of them either.
func (r *register) stuck() []int {
	var left []int
	for scribe := range r.holds {
		left = append(left, scribe)
	}
	for {
		var waiting []int
		for _, scribe := range left {
			if r.waitsAmong(scribe, left) {
				waiting = append(waiting, scribe)
			}
		}
		if len(waiting) == len(left) {
			return left
		}
		left = waiting
	}
}

// waitsAmong reports whether a scribe holds a piece, waits for at least one, and some scribes hold all for which it waits.
func (r *register) waitsAmong(scribe int, among []int) bool {
	waits := false
	for _, piece := range r.pieces {
		if !r.waitsFor(scribe, piece) {
			continue
		}
		holder, isHeld := r.holder(piece)
		if !isHeld || !slices.Contains(among, holder) {
			return false
		}
		waits = true
	}
	return waits && r.holdsAny(scribe)
}

// CheckStuck returns OK if scribes wait for each other.
func CheckStuck(h api.Hires, day int, scribes []int) api.Errno {
	r, e := behind(h, day)
	if e != api.OK {
		return e
	}
	if !isGroup(scribes, h.Scribes) {
		return api.ErrProof
	}
	for _, scribe := range scribes {
		if !r.waitsAmong(scribe, scribes) {
			return api.ErrProof
		}
	}
	return api.OK
}

// isGroup reports whether a list is of at least one of n scribes, in increasing order.
func isGroup(l []int, n int) bool {
	return len(l) > 0 && areWithin(l, 0, n-1) && areDifferent(l) && slices.IsSorted(l)
}
