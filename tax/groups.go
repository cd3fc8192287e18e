package tax

import (
	"math/bits"
	"slices"

	"pecia/api"
)

// A set is partners: each of them is a bit of it.
type set uint

// sets is how many sets of partners there are at most.
const sets = 1 << api.MaxPartners

func (s set) without(who int) set { return s &^ (1 << who) }

// first returns the first partner of a set that has any.
func (s set) first() int { return bits.TrailingZeros(uint(s)) }

// partners returns the partners of a set, in increasing order.
func (s set) partners() []int {
	var l []int
	for ; s != 0; s = s.without(s.first()) {
		l = append(l, s.first())
	}
	return l
}

// checkBalances returns the first error of balances.
func checkBalances(balances []int) api.Errno {
	if len(balances) > api.MaxPartners {
		return api.ErrLimit
	}
	isNone := func(n int) bool { return !isBalance(n) }
	if slices.ContainsFunc(balances, isNone) || total(balances...) != 0 {
		return api.ErrArg
	}
	return api.OK
}

func isBalance(n int) bool { return within(n, -api.MaxCoins, api.MaxCoins) }

// Groups returns as many groups as possible whose balances are nothing together.
func Groups(balances []int) ([][]int, api.Errno) {
	if e := checkBalances(balances); e != api.OK {
		return nil, e
	}
	return groupsOf(balances), api.OK
}

// groupsOf returns as many groups as possible: the first partner who is left gets a group that leaves the others as many as possible, and then the next one.
func groupsOf(balances []int) [][]int {
	together := sumsOf(balances)
	most := mostOf(len(balances), together)
	rest := unsettled(balances)
	var groups [][]int
search:
	for first := range len(balances) {
		for group := set(1) << first; group <= rest; group++ {
			isGroup := group.first() == first && group&^rest == 0 && together(group) == 0
			if isGroup && most(rest&^group) == most(rest)-1 {
				groups = append(groups, group.partners())
				rest &^= group
				continue search
			}
		}
	}
	return groups
}

// unsettled returns the partners whose balances are not 0.
func unsettled(balances []int) set {
	var s set
	for who, n := range balances {
		if n != 0 {
			s |= 1 << who
		}
	}
	return s
}

// sumsOf returns a closure that tells what the balances of a set of partners are together.
func sumsOf(balances []int) func(set) int {
	var sums [sets]int
	for s := set(1); s < 1<<len(balances); s++ {
		who := s.first()
		sums[s] = sums[s.without(who)] + balances[who]
	}
	return func(s set) int { return sums[s] }
}

// mostOf returns a closure that tells how many groups a set of partners has at most. If the partners of these groups are taken out of the set one by one, group by group, what is left is 0 together once for each group; so the most groups are found by the best partner to take out next.
func mostOf(partners int, together func(set) int) func(set) int {
	var most [sets]int
	for s := set(1); s < 1<<partners; s++ {
		for _, who := range s.partners() {
			most[s] = max(most[s], most[s.without(who)])
		}
		if together(s) == 0 {
			most[s]++
		}
	}
	return func(s set) int { return most[s] }
}
