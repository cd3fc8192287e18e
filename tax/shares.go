package tax

import (
	"slices"

	"pecia/api"
)

// Share returns what partners get of an amount, and whose turn it is next.
func Share(n int, parts []int, turn int) ([]int, int, api.Errno) {
	return Shares([]int{n}, parts, turn)
}

// Shares returns what partners get of amounts, one after the other, together.
func Shares(l []int, parts []int, turn int) ([]int, int, api.Errno) {
	if e := checkShares(l, parts, turn); e != api.OK {
		return nil, 0, e
	}
	var all [][]int
	for _, n := range l {
		shares, next := divide(n, parts, turn)
		all = append(all, shares)
		turn = next
	}
	return merge(len(parts), all...), turn, api.OK
}

// checkShares returns the first error of amounts that are divided by parts, at a turn.
func checkShares(l []int, parts []int, turn int) api.Errno {
	if len(l) > api.MaxPosts {
		return api.ErrLimit
	}
	isNone := func(n int) bool { return !isAmount(n) }
	if slices.ContainsFunc(l, isNone) || !areParts(parts) || !within(turn, 0, len(parts)-1) {
		return api.ErrArg
	}
	if total(l...) > api.MaxCoins {
		return api.ErrRange
	}
	return api.OK
}

func areParts(l []int) bool {
	isNone := func(n int) bool { return !within(n, 0, api.MaxPart) }
	return within(len(l), 1, api.MaxPartners) && !slices.ContainsFunc(l, isNone) && total(l...) > 0
}

// divide returns what partners get of an amount, and the next turn.
func divide(n int, parts []int, turn int) ([]int, int) {
	all := total(parts...)
	var shares []int
	for _, part := range parts {
		shares = append(shares, n*part/all)
	}
	left, next := n-total(shares...), turn
	for i := range len(parts) {
		who := (turn + i) % len(parts)
		if left > 0 && n*parts[who]%all != 0 {
			shares[who]++
			left--
			next = (who + 1) % len(parts)
		}
	}
	return shares, next
}

// merge returns what each partner gets together by lists of what each one gets.
func merge(partners int, lists ...[]int) []int {
	together := make([]int, partners)
	for _, l := range lists {
		for who, n := range l {
			together[who] += n
		}
	}
	return together
}
