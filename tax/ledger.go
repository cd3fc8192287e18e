package tax

import "pecia/api"

// CheckPosts returns the first error of a ledger.
func CheckPosts(l []api.Post, accounts int) api.Errno {
	if !within(accounts, 1, api.MaxPartners) {
		return api.ErrArg
	}
	if len(l) > api.MaxPosts {
		return api.ErrLimit
	}
	seen := map[int]bool{}
	for _, p := range l {
		if !isPost(p, accounts) {
			return api.ErrArg
		}
		if seen[p.ID] {
			return api.ErrTwice
		}
		seen[p.ID] = true
	}
	return api.OK
}

// isPost reports whether a post is one of a ledger: it has two accounts, and stays as it is if all its numbers are brought within their bounds.
func isPost(p api.Post, accounts int) bool {
	bounded := api.Post{
		ID:    bound(p.ID, 1, api.MaxID),
		Day:   bound(p.Day, 0, api.MaxDay),
		From:  bound(p.From, 0, accounts-1),
		To:    bound(p.To, 0, accounts-1),
		Coins: bound(p.Coins, 1, api.MaxCoins),
	}
	return p == bounded && p.From != p.To
}

func bound(n, lo, hi int) int { return min(max(n, lo), hi) }

// Balances returns what is on all accounts behind a day.
func Balances(l []api.Post, accounts, day int) ([]int, api.Errno) {
	if e := CheckPosts(l, accounts); e != api.OK {
		return nil, e
	}
	if !within(day, 0, api.MaxDay) {
		return nil, api.ErrArg
	}
	var all []int
	for account := range accounts {
		all = append(all, standOf(l, account, day))
	}
	return all, api.OK
}

// standOf returns what is on an account behind a day.
func standOf(l []api.Post, account, day int) int {
	n := 0
	for _, p := range l {
		if p.Day > day {
			continue
		}
		if p.To == account {
			n += p.Coins
		}
		if p.From == account {
			n -= p.Coins
		}
	}
	return n
}

// Lowest returns how much there is on an account at least behind any day, and the first such day.
func Lowest(l []api.Post, accounts, account int) (int, int, api.Errno) {
	if e := CheckPosts(l, accounts); e != api.OK {
		return 0, 0, e
	}
	if !within(account, 0, accounts-1) {
		return 0, 0, api.ErrArg
	}
	least, first := standOf(l, account, 0), 0
	for day := range api.MaxDay + 1 {
		if n := standOf(l, account, day); n < least {
			least, first = n, day
		}
	}
	return least, first, api.OK
}
