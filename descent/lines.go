package descent

import (
	"slices"

	"pecia/api"
)

// parentsOf returns the parent of each copy; ErrArg if they are not those of a descent of a right stock.
func parentsOf(s api.Stock, d api.Descent) (map[int]int, api.Errno) {
	if !areParents(s, bookOf(s), d.Parents) {
		return nil, api.ErrArg
	}
	parents := map[int]int{}
	for i, c := range s.Copies {
		parents[c.ID] = d.Parents[i]
	}
	return parents, api.OK
}

// line returns a copy, its parent, the parent of that, and so on, without the first text.
func line(parents map[int]int, id int) []int {
	var l []int
	for at := id; at != firstText; at = parents[at] {
		l = append(l, at)
	}
	return l
}

// From returns the copies from which a copy descends by a descent, its parent first.
func From(s api.Stock, d api.Descent, id int) ([]int, api.Errno) {
	if e := checkChild(s, id); e != api.OK {
		return nil, e
	}
	parents, e := parentsOf(s, d)
	if e != api.OK {
		return nil, e
	}
	return line(parents, parents[id]), api.OK
}

// Below returns the copies that descend from a copy by a descent.
func Below(s api.Stock, d api.Descent, id int) ([]int, api.Errno) {
	if e := checkOrigin(s, id); e != api.OK {
		return nil, e
	}
	parents, e := parentsOf(s, d)
	if e != api.OK {
		return nil, e
	}
	return idsOf(s, func(c api.Witness) bool {
		return id == firstText || slices.Contains(line(parents, parents[c.ID]), id)
	}), api.OK
}

// checkOrigin returns the first error of a stock, and the ID of a copy, or of the first text.
func checkOrigin(s api.Stock, id int) api.Errno {
	if id == firstText {
		return Check(s)
	}
	return checkChild(s, id)
}

// Meet returns the last copy from which two copies descend by a descent.
func Meet(s api.Stock, d api.Descent, a, b int) (int, api.Errno) {
	for _, id := range []int{a, b} {
		if e := checkChild(s, id); e != api.OK {
			return 0, e
		}
	}
	parents, e := parentsOf(s, d)
	if e != api.OK {
		return 0, e
	}
	other := line(parents, b)
	for _, id := range line(parents, a) {
		if slices.Contains(other, id) {
			return id, api.OK
		}
	}
	return firstText, api.OK
}
