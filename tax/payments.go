package tax

import (
	"slices"

	"pecia/api"
)

// Settle returns as few payments as possible behind which nobody owes anything.
func Settle(balances []int) ([]api.Payment, api.Errno) {
	if e := checkBalances(balances); e != api.OK {
		return nil, e
	}
	rest := slices.Clone(balances)
	var l []api.Payment
	for _, group := range groupsOf(balances) {
		l = append(l, settle(rest, group)...)
	}
	return l, api.OK
}

// settle makes the balances of a group 0. By each payment one balance comes to be 0, and by the last one two; by no other one, as the group would have been two groups then.
func settle(balances []int, group []int) []api.Payment {
	var l []api.Payment
	for {
		from := slices.IndexFunc(group, func(who int) bool { return balances[who] < 0 })
		to := slices.IndexFunc(group, func(who int) bool { return balances[who] > 0 })
		if from < 0 || to < 0 {
			return l
		}
		p := api.Payment{From: group[from], To: group[to]}
		p.Coins = min(-balances[p.From], balances[p.To])
		pay(balances, p)
		l = append(l, p)
	}
}

func pay(balances []int, p api.Payment) {
	balances[p.From] += p.Coins
	balances[p.To] -= p.Coins
}

// Fewest returns how many payments are needed at least.
func Fewest(balances []int) (int, api.Errno) {
	if e := checkBalances(balances); e != api.OK {
		return 0, e
	}
	return fewest(balances), api.OK
}

func fewest(balances []int) int {
	n := 0
	for _, group := range groupsOf(balances) {
		n += len(group) - 1
	}
	return n
}

// checkPayments returns the first error of balances, and of how many payments there are.
func checkPayments(balances []int, l []api.Payment) api.Errno {
	if e := checkBalances(balances); e != api.OK {
		return e
	}
	if len(l) > api.MaxPosts {
		return api.ErrLimit
	}
	return api.OK
}

// arePossible reports whether all payments are possible among so many partners.
func arePossible(l []api.Payment, partners int) bool {
	return !slices.ContainsFunc(l, func(p api.Payment) bool {
		isPartner := func(who int) bool { return within(who, 0, partners-1) }
		return !isPartner(p.From) || !isPartner(p.To) || p.From == p.To || !within(p.Coins, 1, api.MaxCoins)
	})
}

// CheckSettle returns OK if payments settle all, and no fewer do. (In between a balance may be beyond what Pay allows.)
func CheckSettle(balances []int, l []api.Payment) api.Errno {
	if e := checkPayments(balances, l); e != api.OK {
		return e
	}
	if !arePossible(l, len(balances)) || len(l) != fewest(balances) {
		return api.ErrProof
	}
	rest := slices.Clone(balances)
	for _, p := range l {
		pay(rest, p)
	}
	if unsettled(rest) != 0 {
		return api.ErrProof
	}
	return api.OK
}

// Pay returns balances behind payments.
func Pay(balances []int, l []api.Payment) ([]int, api.Errno) {
	if e := checkPayments(balances, l); e != api.OK {
		return nil, e
	}
	if !arePossible(l, len(balances)) {
		return nil, api.ErrArg
	}
	rest := slices.Clone(balances)
	for _, p := range l {
		pay(rest, p)
		if !isBalance(rest[p.From]) || !isBalance(rest[p.To]) {
			return nil, api.ErrRange
		}
	}
	return rest, api.OK
}
