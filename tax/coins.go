package tax

import (
	"slices"

	"pecia/api"
)

// maxName is how many letters a name has at most.
const maxName = 4

// CheckCoinage returns the first error of a coinage.
func CheckCoinage(c api.Coinage) api.Errno {
	if len(c.Names) > api.MaxUnits {
		return api.ErrLimit
	}
	if len(c.Names) == 0 || len(c.Radix) != len(c.Names)-1 || !areNames(c.Names) || !areRadixes(c.Radix) {
		return api.ErrArg
	}
	if len(kindsOf(c)) < len(c.Names) {
		return api.ErrTwice
	}
	if worthOf(c)[0] > api.MaxCoins {
		return api.ErrRange
	}
	return api.OK
}

func areNames(names []string) bool {
	return !slices.ContainsFunc(names, func(name string) bool { return !isName(name) })
}

func isName(name string) bool {
	for _, c := range name {
		if c < 'a' || c > 'z' {
			return false
		}
	}
	return within(len(name), 1, maxName)
}

func areRadixes(l []int) bool {
	return !slices.ContainsFunc(l, func(n int) bool { return !within(n, 2, api.MaxRadix) })
}

// kindsOf returns the kinds of coins, by their names.
func kindsOf(c api.Coinage) map[string]int {
	kinds := map[string]int{}
	for kind := range len(c.Names) {
		kinds[c.Names[kind]] = kind
	}
	return kinds
}

// worthOf returns what one coin of each kind is worth. (Even six kinds with the greatest Radix are worth far less than an int can be.)
func worthOf(c api.Coinage) []int {
	last := len(c.Names) - 1
	worth := make([]int, len(c.Names))
	worth[last] = 1
	for i := range last {
		kind := last - 1 - i
		worth[kind] = worth[kind+1] * c.Radix[kind]
	}
	return worth
}

// Worth returns what each kind of coins is worth in the smallest ones.
func Worth(c api.Coinage) ([]int, api.Errno) {
	if e := CheckCoinage(c); e != api.OK {
		return nil, e
	}
	return worthOf(c), api.OK
}

func isAmount(n int) bool { return within(n, 0, api.MaxCoins) }

// checkAmount returns the first error of a coinage, and an amount.
func checkAmount(c api.Coinage, n int) api.Errno {
	if e := CheckCoinage(c); e != api.OK {
		return e
	}
	if !isAmount(n) {
		return api.ErrArg
	}
	return api.OK
}

// Split returns an amount in coins of all kinds.
func Split(c api.Coinage, n int) ([]int, api.Errno) {
	if e := checkAmount(c, n); e != api.OK {
		return nil, e
	}
	return split(c, n), api.OK
}

func split(c api.Coinage, n int) []int {
	var l []int
	for _, worth := range worthOf(c) {
		l = append(l, n/worth)
		n %= worth
	}
	return l
}

// Unite returns coins of all kinds as an amount.
func Unite(c api.Coinage, l []int) (int, api.Errno) {
	if e := CheckCoinage(c); e != api.OK {
		return 0, e
	}
	if !areCoins(c, l) {
		return 0, api.ErrArg
	}
	worth := worthOf(c)
	if l[0] > api.MaxCoins/worth[0] { // so many might be worth more than an int can be
		return 0, api.ErrRange
	}
	n := 0
	for kind := range len(worth) {
		n += l[kind] * worth[kind]
	}
	if !isAmount(n) {
		return 0, api.ErrRange
	}
	return n, api.OK
}

// areCoins reports whether numbers are coins of all kinds.
func areCoins(c api.Coinage, l []int) bool {
	if len(l) != len(c.Names) {
		return false
	}
	for kind := range len(c.Names) {
		if l[kind] < 0 || kind > 0 && l[kind] >= c.Radix[kind-1] {
			return false
		}
	}
	return true
}
