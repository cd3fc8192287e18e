package hire

import "pecia/api"

// noRound is the round of a scribe that has none yet.
const noRound = 0

// Make returns the deal by which nobody, and no group, can do better.
func Make(m api.Market) (api.Deal, api.Errno) {
	if e := CheckMarket(m); e != api.OK {
		return api.Deal{}, e
	}
	likings := likingsOf(m)
	d := api.Deal{Gets: make([]int, len(likings)), Rounds: make([]int, len(likings))}
rounds:
	for round := 1; ; round++ {
		best := bestLeft(likings, d.Rounds)
		for scribe, piece := range best {
			if comesBack(best, scribe) {
				d.Gets[scribe], d.Rounds[scribe] = piece, round
			}
		}
		for _, r := range d.Rounds {
			if r == noRound {
				continue rounds
			}
		}
		return d, api.OK
	}
}

// bestLeft returns, for each scribe without a round, the piece that it likes best of those of scribes without one.
func bestLeft(likings []liking, rounds []int) map[int]int {
	best := map[int]int{}
	for scribe, likes := range likings {
		if rounds[scribe] != noRound {
			continue
		}
		best[scribe] = scribe
		for other, r := range rounds {
			if r == noRound && likes(other, best[scribe]) {
				best[scribe] = other
			}
		}
	}
	return best
}

// comesBack reports whether one comes back to a scribe, from scribe to scribe by the pieces that they like best.
func comesBack(best map[int]int, scribe int) bool {
	at := scribe
	for range best {
		at = best[at]
		if at == scribe {
			return true
		}
	}
	return false
}

// CheckDeal returns OK if rounds prove that nobody can do better than by a deal.
func CheckDeal(m api.Market, d api.Deal) api.Errno {
	if e := CheckMarket(m); e != api.OK {
		return e
	}
	scribes := len(m.Wishes)
	if !isShuffled(d.Gets, scribes) || len(d.Rounds) != scribes || !areWithin(d.Rounds, 1, scribes) {
		return api.ErrProof
	}
	for scribe, likes := range likingsOf(m) {
		piece, round := d.Gets[scribe], d.Rounds[scribe]
		if d.Rounds[piece] != round {
			return api.ErrProof
		}
		for other, r := range d.Rounds {
			if r >= round && likes(other, piece) {
				return api.ErrProof
			}
		}
	}
	return api.OK
}
