package descent

import (
	"slices"

	"pecia/api"
)

// noBranch is what is above the first branch.
const noBranch = -1

// Tree returns the tree in which each slip arises once.
func Tree(s api.Stock) (api.Tree, api.Errno) {
	if e := Check(s); e != api.OK {
		return api.Tree{}, e
	}
	marks := marksOf(s)
	if _, _, is := firstCrossing(marks); is {
		return api.Tree{}, api.ErrClash
	}
	return treeOf(s, marks), api.OK
}

// treeOf returns the right tree of a stock in which no marks cross each other: a branch for the copies that hold some slip, for each such slip, with all slips that all of these copies hold.
func treeOf(s api.Stock, marks []mark) api.Tree {
	lists := [][]int{nil}
	for i, m := range marks {
		if !slices.ContainsFunc(marks[:i], func(other mark) bool { return other.holders == m.holders }) {
			lists = append(lists, heldBy(marks, m.holders))
		}
	}
	// What is above a branch has fewer slips.
	slices.SortStableFunc(lists, func(a, b []int) int { return len(a) - len(b) })
	var t api.Tree
	for _, slips := range lists {
		t.Branches = append(t.Branches, api.Branch{Above: nearest(t.Branches, slips), Slips: slips, Copies: copiesWith(s, slips)})
	}
	return t
}

// heldBy returns the slips that copies hold all together.
func heldBy(marks []mark, copies uint) []int {
	var l []int
	for _, m := range marks {
		if m.holders&copies == copies {
			l = append(l, m.slip)
		}
	}
	return l
}

// nearest returns the index of the last branch whose slips are all among some others.
func nearest(branches []api.Branch, slips []int) int {
	for i := len(branches) - 1; i >= 0; i-- {
		if isPartOf(branches[i].Slips, slips) {
			return i
		}
	}
	return noBranch
}

// isPartOf reports whether a list has just elements that another one has.
func isPartOf[T comparable](part, whole []T) bool {
	return !slices.ContainsFunc(part, func(x T) bool { return !slices.Contains(whole, x) })
}

// copiesWith returns the copies that have just some slips.
func copiesWith(s api.Stock, slips []int) []int {
	return idsOf(s, func(c api.Witness) bool { return slices.Equal(c.Slips, slips) })
}

// CheckTree returns OK if each slip arises once in a tree.
func CheckTree(s api.Stock, t api.Tree) api.Errno {
	if e := Check(s); e != api.OK {
		return e
	}
	if len(t.Branches) > 2*api.MaxCopies {
		return api.ErrLimit
	}
	for _, b := range t.Branches {
		if len(b.Slips) > api.MaxMarks || len(b.Copies) > api.MaxCopies {
			return api.ErrLimit
		}
	}
	if !isRight(s, t) {
		return api.ErrProof
	}
	return api.OK
}

func isRight(s api.Stock, t api.Tree) bool {
	if len(t.Branches) == 0 {
		return false
	}
	for i, b := range t.Branches {
		if !isPlaced(t, i) || !areIncreasing(b.Slips) || !slices.Equal(b.Copies, copiesWith(s, b.Slips)) {
			return false
		}
	}
	return allStandOnce(s, t) && allAriseOnce(s, t) && lostOnesFork(t)
}

// isPlaced reports whether a branch is the first one, without slips, or has a branch before it above it, with fewer slips, all of them its own.
func isPlaced(t api.Tree, i int) bool {
	b := t.Branches[i]
	if i == 0 {
		return b.Above == noBranch && len(b.Slips) == 0
	}
	if !within(b.Above, 0, i-1) {
		return false
	}
	above := t.Branches[b.Above].Slips
	return len(above) < len(b.Slips) && isPartOf(above, b.Slips)
}

// allStandOnce reports whether each copy stands in one branch.
func allStandOnce(s api.Stock, t api.Tree) bool {
	var all []int
	for _, b := range t.Branches {
		all = append(all, b.Copies...)
	}
	slices.Sort(all)
	return slices.Equal(all, idsOf(s, func(api.Witness) bool { return true }))
}

// allAriseOnce reports whether each slip of a stock arises once in a tree.
func allAriseOnce(s api.Stock, t api.Tree) bool {
	times := map[int]int{}
	for _, b := range t.Branches[1:] {
		for _, slip := range b.Slips {
			if !slices.Contains(t.Branches[b.Above].Slips, slip) {
				times[slip]++
			}
		}
	}
	return !slices.ContainsFunc(slips(s), func(slip int) bool { return times[slip] != 1 })
}

// lostOnesFork reports whether each lost copy is above two branches at least.
func lostOnesFork(t api.Tree) bool {
	below := map[int]int{}
	for _, b := range t.Branches[1:] {
		below[b.Above]++
	}
	for _, i := range lostOnes(t) {
		if below[i] < 2 {
			return false
		}
	}
	return true
}

// lostOnes returns the indices of the lost copies of a tree.
func lostOnes(t api.Tree) []int {
	var l []int
	for i, b := range t.Branches {
		if i > 0 && len(b.Copies) == 0 {
			l = append(l, i)
		}
	}
	return l
}

// Lost returns how many copies must have been lost.
func Lost(s api.Stock) (int, api.Errno) {
	t, e := Tree(s)
	if e != api.OK {
		return 0, e
	}
	return len(lostOnes(t)), api.OK
}
