package tax_test

import (
	"math"
	"math/rand"
	"reflect"
	"slices"
	"testing"

	"pecia/api"
)

const most = api.MaxCoins

func list(n ...int) []int { return n }

// same is a list of n times the same thing.
func same[T any](n int, x T) []T { return slices.Repeat([]T{x}, n) }

// far is numbers that are beyond all bounds, and some whose products are no more what they should be.
func far() []int {
	return list(math.MinInt, math.MinInt+1, -1<<60, -1, 1<<60, 1<<62, math.MaxInt-1, math.MaxInt)
}

func coinage(names []string, radix ...int) api.Coinage {
	return api.Coinage{Names: names, Radix: radix}
}

func names(l ...string) []string { return l }

// pounds is the coinage of the chapter's examples.
func pounds() api.Coinage { return coinage(names("li", "s", "d"), 20, 12) }

// coinages is some right coinages: small ones, and some whose first coins are worth as much as they can be.
func coinages() []api.Coinage {
	return []api.Coinage{
		pounds(),
		coinage(names("d")),
		coinage(names("b", "a"), 2),
		coinage(names("aaaa", "aa", "zzzz", "z"), 2, 3, 5),
		coinage(names("x", "y"), 1000),
		coinage(names("f", "e", "d", "c", "b", "a"), 256, 256, 256, 256, 256),
		coinage(names("a", "b", "c", "d", "e", "f"), 2, 1000, 549, 1000, 1000),
		coinage(names("abcd", "abc", "ab", "a", "aa", "aaa"), 2, 2, 2, 2, 2),
	}
}

// firstWorth is what one of the first coins of a coinage is worth.
func firstWorth(c api.Coinage) int {
	n := 1
	for _, radix := range c.Radix {
		n *= radix
	}
	return n
}

// someAmount is any amount, also a small one and one near what the first coins of a coinage are worth.
func someAmount(r *rand.Rand, c api.Coinage) int {
	n := r.Intn(most + 1)
	switch r.Intn(4) {
	case 0:
		n = r.Intn(1000)
	case 1:
		n = firstWorth(c)*r.Intn(5) + r.Intn(5) - 2
	case 2:
		n = most - r.Intn(1000)
	}
	return max(0, min(n, most))
}

// turned is numbers, each of which is less than 0 by what it was greater.
func turned(l []int) []int {
	var other []int
	for _, n := range l {
		other = append(other, -n)
	}
	return other
}

func sum(l []int) int {
	n := 0
	for _, x := range l {
		n += x
	}
	return n
}

// notZero is the partners whose balances are not 0.
func notZero(balances []int) []int {
	var l []int
	for i, n := range balances {
		if n != 0 {
			l = append(l, i)
		}
	}
	return l
}

// someBalances is any balances of n partners, most of them from -size to size, so that many of them are 0 in groups.
func someBalances(r *rand.Rand, n, size int) []int {
	for {
		l := make([]int, n)
		for i := 1; i < n; i++ {
			l[i] = r.Intn(2*size+1) - size
			l[0] -= l[i]
		}
		if n == 0 || -most <= l[0] && l[0] <= most {
			r.Shuffle(n, func(i, j int) { l[i], l[j] = l[j], l[i] })
			return l
		}
	}
}

func wantErr(t *testing.T, what any, got, want api.Errno) {
	t.Helper()
	if got != want {
		t.Errorf("%v: error %d, want %d", what, got, want)
	}
}

// check is that there is an error, and with it nothing else.
func check(t *testing.T, what any, got, want api.Errno, more bool) {
	t.Helper()
	wantErr(t, what, got, want)
	if more {
		t.Error(what, "returns something with an error")
	}
}

// want compares results with what they should be; an empty slice is the same whether it is nil or not.
func want(t *testing.T, what, got, should any) {
	t.Helper()
	a, b := reflect.ValueOf(got), reflect.ValueOf(should)
	if a.Kind() == reflect.Slice && a.Len() == 0 && b.Len() == 0 {
		return
	}
	if !reflect.DeepEqual(got, should) {
		t.Errorf("%v: %v, want %v", what, got, should)
	}
}
