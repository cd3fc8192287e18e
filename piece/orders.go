package piece

import (
	"slices"

	"pecia/api"
)

// Count returns how many orders of all pieces there are.
func Count(l []api.Piece) (int, api.Errno) {
	if e := Check(l); e != api.OK {
		return 0, e
	}
	legs := legsOf(l)
	if !haveOrder(legs) {
		return 0, api.OK
	}
	n := circuits(closed(legs))
	if len(surpluses(legs)) == 0 { // each circuit can begin with each of its pieces
		n = times(n, len(legs))
	}
	return n, api.OK
}

// circuits returns in how many ways the legs of a part in which no word has a surplus go round. By the theorem of de Bruijn, van Aardenne-Ehrenfest, Smith and Tutte this is the number of trees by which all words lead to one of them, times the ways in which the other legs from each word can be taken in turn.
func circuits(legs []leg) int {
	words := allWords(legs)
	from := make([]int, len(words))
	for _, g := range legs {
		from[slices.Index(words, g.from)]++
	}
	n := times(1, determinant(branching(legs, words[1:])))
	for _, legsFrom := range from {
		for k := 2; k < legsFrom; k++ {
			n = times(n, k)
		}
	}
	return n
}

// times returns a product, but at most api.MaxOrders; all factors are at least 1, so that a product that was too great once stays so.
func times(a, b int) int { return min(a*b, api.MaxOrders) }

// branching returns the matrix whose determinant is the number of trees by which some words lead to the only other one: how many legs go from each word to others, less, besides, how many go to each other word.
func branching(legs []leg, words []int) [][]int {
	m := make([][]int, len(words))
	for i := range m {
		m[i] = make([]int, len(words))
	}
	for _, g := range legs {
		from, to := slices.Index(words, g.from), slices.Index(words, g.to)
		if from < 0 || g.from == g.to {
			continue
		}
		m[from][from]++
		if to >= 0 {
			m[from][to]--
		}
	}
	return m
}

// determinant returns the determinant of a matrix of branching, which it changes. Each division comes out even (Bareiss), and none is by 0: the numbers divided by count trees, and there are some.
func determinant(m [][]int) int {
	by := 1
	for k := range m {
		for i := k + 1; i < len(m); i++ {
			for j := k + 1; j < len(m); j++ {
				m[i][j] = (m[i][j]*m[k][k] - m[i][k]*m[k][j]) / by
			}
		}
		by = m[k][k]
	}
	return by
}

// Sure returns the joints that all orders have: those whose piece ahead cannot stand last, and has no other piece behind it in any order.
func Sure(l []api.Piece) ([]api.Joint, api.Errno) {
	legs, e := orderedLegs(l)
	if e != api.OK {
		return nil, e
	}
	some := joints(legs)
	lasts := placed(legs, asLast)
	var all []api.Joint
	for _, j := range some {
		if !slices.Contains(lasts, j.Before) && !hasOther(some, j) {
			all = append(all, j)
		}
	}
	return all, api.OK
}

// hasOther reports whether the piece ahead in a joint stands ahead in another joint, too.
func hasOther(l []api.Joint, j api.Joint) bool {
	for _, k := range l {
		if k != j && k.Before == j.Before {
			return true
		}
	}
	return false
}

// Possible returns the joints that some order has.
func Possible(l []api.Piece) ([]api.Joint, api.Errno) {
	legs, e := orderedLegs(l)
	if e != api.OK {
		return nil, e
	}
	return joints(legs), api.OK
}

// joints returns the joints that some order of legs has. A joint is tried by joining its two pieces by noWord, with which nothing else begins or ends. In an order of these they stand together, or else at both ends; such an order goes round, and can begin elsewhere, so that they stand together there.
func joints(legs []leg) []api.Joint {
	var l []api.Joint
	for i, a := range legs {
		for k, b := range followers(legs, a) {
			tied := slices.Clone(legs)
			tied[i] = asLast(tied[i])
			tied[k] = asFirst(tied[k])
			if haveOrder(tied) {
				l = append(l, api.Joint{Before: a.id, After: b.id})
			}
		}
	}
	return l
}

// Firsts returns the pieces that stand first in all orders, and in some.
func Firsts(l []api.Piece) ([]int, []int, api.Errno) { return placedIn(l, asFirst) }

// Lasts returns the pieces that stand last in all orders, and in some.
func Lasts(l []api.Piece) ([]int, []int, api.Errno) { return placedIn(l, asLast) }

// asFirst returns a leg that can stand first, or behind one that is asLast, only.
func asFirst(g leg) leg { return leg{g.id, noWord, g.to} }

// asLast returns a leg that can stand last, or ahead of one that is asFirst, only.
func asLast(g leg) leg { return leg{g.id, g.from, noWord} }

// placedIn returns the pieces that stand at an end in all orders, and in some.
func placedIn(l []api.Piece, at func(leg) leg) ([]int, []int, api.Errno) {
	legs, e := orderedLegs(l)
	if e != api.OK {
		return nil, nil, e
	}
	some := placed(legs, at)
	if len(some) > 1 {
		return nil, some, api.OK
	}
	return slices.Clone(some), some, api.OK
}

// placed returns the pieces that stand at an end in some order of legs.
func placed(legs []leg, at func(leg) leg) []int {
	var ids []int
	for i, g := range legs {
		changed := slices.Clone(legs)
		changed[i] = at(g)
		if haveOrder(changed) {
			ids = append(ids, g.id)
		}
	}
	return ids
}
