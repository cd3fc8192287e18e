package hire

import (
	"maps"
	"slices"

	"pecia/api"
)

// Objects returns scribes that do better among themselves than by a deal, and what they get then. If any group objects, a ring of scribes does, each of whom gets the piece of the next one.
func Objects(m api.Market, gets []int) ([]int, []int, bool, api.Errno) {
	if e := checkGets(m, gets); e != api.OK {
		return nil, nil, false, e
	}
	likings := likingsOf(m)
	for scribe, likes := range likings {
		for piece := range likings {
			if !likes(piece, gets[scribe]) {
				continue
			}
			if own, is := ringBetween(likings, gets, piece, scribe); is {
				group, pieces := inOrder(own)
				return group, pieces, true, api.OK
			}
		}
	}
	return nil, nil, false, api.OK
}

// ringBetween returns who gets which piece if the last scribe of a ring gets that of the first one, and all others that of the next one, which they like no less than what they get by a deal. It reports whether there is such a ring.
func ringBetween(likings []liking, gets []int, begin, end int) (map[int]int, bool) {
	before := map[int]int{}
	reached := []int{begin}
	for i := 0; i < len(reached); i++ {
		scribe := reached[i]
		for piece := range likings {
			if !likings[scribe](gets[scribe], piece) && !slices.Contains(reached, piece) {
				before[piece] = scribe
				reached = append(reached, piece)
			}
		}
	}
	if !slices.Contains(reached, end) {
		return nil, false
	}
	own := map[int]int{end: begin}
	for at := end; at != begin; at = before[at] {
		own[before[at]] = at
	}
	return own, true
}

// inOrder returns the scribes of a ring in increasing order, and the piece of each one.
func inOrder(own map[int]int) (group, pieces []int) {
	group = slices.Sorted(maps.Keys(own))
	for _, scribe := range group {
		pieces = append(pieces, own[scribe])
	}
	return group, pieces
}

// CheckObjects returns OK if scribes do better among themselves.
func CheckObjects(m api.Market, gets, group, own []int) api.Errno {
	if e := checkGets(m, gets); e != api.OK {
		return e
	}
	pieces := slices.Sorted(slices.Values(own))
	if !isGroup(group, len(gets)) || !slices.Equal(pieces, group) {
		return api.ErrProof
	}
	better := false
	for i, scribe := range group {
		likes := likingOf(m, scribe)
		if likes(gets[scribe], own[i]) {
			return api.ErrProof
		}
		better = better || likes(own[i], gets[scribe])
	}
	if !better {
		return api.ErrProof
	}
	return api.OK
}
