package tax_test

import (
	"reflect"
	"slices"
	"strings"
	"testing"

	"pecia/api"
	"pecia/tax"
)

// TestExamples is of the examples of the chapter.
func TestExamples(t *testing.T) {
	worth, e := tax.Worth(pounds())
	wantErr(t, "Worth", e, api.OK)
	want(t, "Worth", worth, list(240, 12, 1))
	wantCoins(t, pounds(), 1000, list(4, 3, 4))
	for n, should := range map[int]string{1000: "4 li 3 s 4 d", 240: "1 li", 0: "0 d", 40: "3 s 4 d"} {
		wantText(t, pounds(), n, should)
	}
	for text, should := range map[string]int{"13 d": 0, "4 d 3 s": 3} {
		n, e, at := tax.Parse(pounds(), text)
		check(t, text, e, api.ErrForm, n != 0)
		want(t, text, at, should)
	}
	l := prices(7, 1300, 5, 1310, 6)
	wantPrice(t, l, 7, 1305, 5)
	years, e := tax.Changes(l, 7)
	wantErr(t, "Changes", e, api.OK)
	want(t, "Changes", years, list(1300, 1310))
	wantFine(t, terms(3, 2, 9, 30), 5, 4)
	wantFine(t, terms(3, 2, 9, 30), 20, 9)
	wantShares(t, list(10), list(1, 1, 1), 0, list(4, 3, 3), 1)
	wantShares(t, list(10), list(1, 1, 1), 1, list(3, 4, 3), 2)
	wantShares(t, list(7), list(2, 0, 1), 1, list(4, 0, 3), 0)
	groups, e := tax.Groups(example())
	wantErr(t, "Groups", e, api.OK)
	want(t, "Groups", groups, [][]int{{0, 1, 2}, {3, 4}})
	wantFewest(t, example(), 3)
}

// arguments is lists that are given to all functions.
type arguments struct {
	c                           api.Coinage
	coins, amounts, parts, owed []int
	prices                      []api.Price
	posts                       []api.Post
	payments                    []api.Payment
}

// someArguments is lists with room behind what they have.
func someArguments() arguments {
	return arguments{
		c:        api.Coinage{Names: slices.Grow(names("li", "s", "d"), 9), Radix: slices.Grow(list(20, 12), 9)},
		coins:    slices.Grow(list(4, 3, 4), 9),
		amounts:  slices.Grow(list(10, 7, 100), 9),
		parts:    slices.Grow(list(2, 0, 1), 9),
		owed:     slices.Grow(list(7, -5, -2, 0, 4, -4), 9),
		prices:   slices.Grow(prices(7, 1310, 6, 1300, 5, 1320, 6, 1305, 9), 9),
		posts:    slices.Grow(posts(post(9, 20, 1, 0, 4), post(2, 10, 0, 1, 5), post(4, 10, 0, 2, 1)), 9),
		payments: slices.Grow(payments(2, 0, 2, 5, 4, 4, 1, 0, 5), 9),
	}
}

// results is what all functions tell of lists, as values that own their memory.
func results(x arguments) []any {
	worth, _ := tax.Worth(x.c)
	coins, _ := tax.Split(x.c, 1000)
	years, _ := tax.Changes(x.prices, 7)
	share, next, _ := tax.Share(100, x.parts, 1)
	shares, last, _ := tax.Shares(x.amounts, x.parts, 1)
	one, _, _ := tax.Shares(x.amounts[:1], x.parts, 1)
	none, _, _ := tax.Shares(nil, x.parts, 1)
	all, _ := tax.Balances(x.posts, 3, 15)
	groups, _ := tax.Groups(x.owed)
	settled, _ := tax.Settle(x.owed)
	rest, _ := tax.Pay(x.owed, x.payments)
	same, _ := tax.Pay(x.owed, nil)
	n, _ := tax.Unite(x.c, x.coins)
	text, _ := tax.Print(x.c, 1000)
	m, _, _ := tax.Parse(x.c, "3 s 4 d")
	price, _ := tax.PriceOf(x.prices, 7, 1307)
	least, day, _ := tax.Lowest(x.posts, 3, 0)
	fewest, _ := tax.Fewest(x.owed)
	return []any{worth, coins, years, share, shares, one, none, all, groups, settled, rest, same, next, last, n, text, m, price, least, day, fewest,
		tax.CheckCoinage(x.c), tax.CheckPrices(x.prices), tax.CheckPosts(x.posts, 3), tax.CheckSettle(x.owed, x.payments)}
}

// TestMemory is of R6 and R7: arguments stay as they are, results share no memory, and the same call has the same result.
func TestMemory(t *testing.T) {
	x := someArguments()
	should := results(x)
	again := results(x)
	want(t, "the same calls", again, should)
	owned := slicesOf(reflect.ValueOf(again))
	if len(owned) != 13 {
		t.Error("results:", len(owned))
	}
	for i, v := range owned {
		fill(v, 1000+i)
	}
	for i, v := range owned {
		for k := range v.Len() {
			if numberOf(v.Index(k)).Int() != int64(1000+i) {
				t.Error("results share memory:", v)
			}
		}
	}
	want(t, "the arguments", x, someArguments())
	for _, l := range [][]int{x.c.Radix, x.coins, x.amounts, x.parts, x.owed} {
		want(t, "room behind numbers", l[:cap(l)][len(l):], make([]int, cap(l)-len(l)))
	}
	want(t, "room behind the names", x.c.Names[:4][3], "")
	want(t, "room behind the prices", x.prices[:5][4], api.Price{})
	want(t, "room behind the posts", x.posts[:4][3], api.Post{})
	want(t, "room behind the payments", x.payments[:4][3], api.Payment{})
	want(t, "the results", results(x), should)
}

// TestWrongArgumentsAreNotChanged is of R6: lists stay as they are, also where they are wrong.
func TestWrongArgumentsAreNotChanged(t *testing.T) {
	for _, l := range [][]int{{3, -2, 1}, {1 << 60, -1 << 60, 0}, {5, -5, 7}} {
		a := slices.Clone(l)
		tax.Unite(pounds(), a)
		tax.CheckCoinage(coinage(names("a", "b", "c", "d"), a...))
		tax.Shares(a, list(1, 1), 0)
		tax.Shares(list(1), a, 0)
		tax.Share(7, a, 3)
		tax.Groups(a)
		tax.Settle(a)
		tax.Fewest(a)
		tax.CheckSettle(a, payments(0, 1, 3))
		tax.Pay(a, payments(0, 1, 3))
		want(t, "a list", a, l)
	}
	great, wrong := list(most, -most, 0), payments(1, 0, 5, 0, 1, 6)
	tax.Pay(great, wrong)
	tax.CheckSettle(great, wrong)
	want(t, "balances that come to be too great", great, list(most, -most, 0))
	want(t, "payments", wrong, payments(1, 0, 5, 0, 1, 6))
}

// TestNumbersOfAnySize is of R1: nothing panics, and nothing goes on for ever.
func TestNumbersOfAnySize(t *testing.T) {
	for _, n := range append(far(), 0, 1, 2, 12, most, most+1) {
		for _, m := range append(far(), 0, 1, 2, 12, most, most+1) {
			c := coinage(names("li", "s"), n)
			tax.CheckCoinage(c)
			tax.Worth(c)
			tax.Split(coinage(names("li", "s"), 12), n)
			tax.Unite(coinage(names("li", "s"), 12), list(n, m))
			tax.Print(c, m)
			tax.Parse(c, strings.Repeat("9", 13)+" li 1 s")
			tax.PriceOf(prices(n, 5, m), n, m)
			tax.Changes([]api.Price{price(n, m, n), price(n, 5, m)}, n)
			tax.Bill(terms(n, m, n, m), n, m, n, m)
			tax.Bill(terms(0, 2, 9, 30), n, m, n, m)
			tax.Share(n, list(m, 1), 1)
			tax.Shares(list(n, m), list(1, 2), 0)
			tax.Share(7, list(1, 1), n)
			tax.Balances(posts(post(1, n, 0, 1, m)), 2, n)
			tax.Balances(posts(post(1, 5, n, m, 1)), n, m)
			tax.Lowest(posts(post(1, 5, n, m, 1)), 2, m)
			tax.Groups(list(n, m, -n, -m))
			tax.Settle(list(n, m, -n-m))
			tax.CheckSettle(list(1, -1), payments(n, m, 1, 0, 1, n))
			tax.CheckSettle(nil, payments(n, m, 1))
			tax.Pay(list(1, -1), payments(0, 1, m, n, m, 1))
		}
	}
}

// slicesOf is all slices within a value that have elements, but for those of values of any type.
func slicesOf(v reflect.Value) []reflect.Value {
	var l []reflect.Value
	switch v.Kind() {
	case reflect.Interface:
		return slicesOf(v.Elem())
	case reflect.Slice:
		for i := range v.Len() {
			l = append(l, slicesOf(v.Index(i))...)
		}
		if k := v.Type().Elem().Kind(); (k == reflect.Int || k == reflect.Struct) && v.Len() > 0 {
			l = append(l, v)
		}
	}
	return l
}

// fill sets what a slice has, and what it has room for besides, to a number, or to structs that begin with it.
func fill(v reflect.Value, n int) {
	for i := range v.Cap() {
		numberOf(v.Slice(0, v.Cap()).Index(i)).SetInt(int64(n))
	}
}

// numberOf is a number, or the first one of a struct.
func numberOf(v reflect.Value) reflect.Value {
	for v.Kind() == reflect.Struct {
		v = v.Field(0)
	}
	return v
}
