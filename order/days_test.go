package order_test

import (
	"math/rand"
	"testing"

	"pecia/api"
	"pecia/order"
)

// waits is how many days each scribe waits, by counting days.
func waits(o api.Order, d days) []int {
	l := make([]int, len(o.Runners))
	for n, r := range o.Runners {
		last := stint(n, len(o.Copies)-1)
		for day := r.Arrives; day < d.of(last)+takes(o, last); day++ {
			if !anyOf(o, d, day, func(s api.Stint) bool { return s.Runner == n }) {
				l[n]++
			}
		}
	}
	return l
}

// anyOf is whether one of those stints is under way on a day of which something is so.
func anyOf(o api.Order, d days, day int, so func(api.Stint) bool) bool {
	for _, s := range stints(o) {
		if so(s) && underWay(o, d, s, day) {
			return true
		}
	}
	return false
}

// idle is how many days the copies of each piece lie idle, by counting days.
func idle(o api.Order, d days) []int {
	l := make([]int, len(o.Copies))
	for j, copies := range o.Copies {
		for c := range min(copies, len(o.Runners)) {
			with := func(s api.Stint) bool { return s.Piece == j && s.Runner%copies == c }
			of := chosen(o, with)
			for day := d.of(of[0]); day < d.of(of[len(of)-1]); day++ {
				if !anyOf(o, d, day, with) {
					l[j]++
				}
			}
		}
	}
	return l
}

func wantDays(t *testing.T, o api.Order, waits, idle []int) {
	t.Helper()
	l, e := order.Waits(o)
	wantErr(t, "Waits", e, api.OK)
	want(t, "Waits", l, waits)
	l, e = order.Idle(o)
	wantErr(t, "Idle", e, api.OK)
	want(t, "Idle", l, idle)
}

// TestWaitsAndIdle is of P8.3.
func TestWaitsAndIdle(t *testing.T) {
	wantDays(t, example(), list(0, 2, 4), list(0, 2, 1))
	wantDays(t, two(), list(0, 4, 10), list(0, 0))
	wantDays(t, none(3), nil, list(0, 0, 0))
	wantDays(t, orderOf(list(1), runner(1, 5, 3)), list(0), list(0))
	wantDays(t, orderOf(list(1), runner(1, 5, 3), runner(2, 0, 4)), list(0, 8), list(0))
	wantDays(t, orderOf(list(1), runner(1, 0, 3), runner(2, 9, 4)), list(0, 0), list(6))
	wantDays(t, orderOf(list(2), runner(1, 0, 3), runner(2, 9, 4), runner(3, 20, 1)), list(0, 0, 0), list(17)) // the second copy does not wait for its first scribe
	wantDays(t, orderOf(list(20, 1), runner(1, 0, 9, 1), runner(2, 0, 1, 1)), list(0, 9), list(0, 0))
	agree := func(_ *rand.Rand, o api.Order) { wantDays(t, o, waits(o, times(o)), idle(o, times(o))) }
	smallOrders(6, 300, agree)
	sizes{pieces: 8, runners: 12, copies: 4, takes: 5, arrives: 30}.visitOrders(7, 20, agree)
}

func hold(t *testing.T, o api.Order, day int) []api.Stint {
	t.Helper()
	l, e := order.Hold(o, day)
	wantErr(t, "Hold", e, api.OK)
	return l
}

// TestHold is of P8.11.
func TestHold(t *testing.T) {
	o := example()
	want(t, "Hold", hold(t, o, 9), path(1, 1, 2, 1))
	want(t, "Hold", hold(t, o, 0), path(0, 0))
	want(t, "Hold, before the end", hold(t, o, 2), path(0, 0))
	want(t, "Hold, on the day of an end", hold(t, o, 3), path(0, 1, 1, 0))
	want(t, "Hold, on the last day", hold(t, o, 13), path(2, 2))
	want(t, "Hold, at the end", hold(t, o, 14), path())
	want(t, "Hold, on the last day that can be asked for", hold(t, o, lastBy), path())
	want(t, "Hold, without scribes", hold(t, none(2), 0), path())
	want(t, "Hold, ahead of the first", hold(t, orderOf(list(1), runner(1, 5, 2)), 4), path())
	for _, day := range append(far(), -1, lastBy+1) {
		l, e := order.Hold(o, day)
		check(t, "Hold", e, api.ErrArg, len(l) > 0)
	}
	smallOrders(8, 200, func(_ *rand.Rand, o api.Order) {
		d := times(o)
		for day := range endBy(o, d) + 2 {
			want(t, "Hold", hold(t, o, day), chosen(o, func(s api.Stint) bool { return underWay(o, d, s, day) }))
		}
	})
}

// TestDaysOfHold is of P8.12 and P8.19: no scribe has two stints under way on a day, and no piece more than it has copies; each day up to the end of a scribe is one of waiting, or of Hold.
func TestDaysOfHold(t *testing.T) {
	each := func(_ *rand.Rand, o api.Order) {
		waited, e := order.Waits(o)
		wantErr(t, "Waits", e, api.OK)
		worked, d := make([]int, len(o.Runners)), timesOf(t, o)
		for day := range endOf(t, o) + 1 {
			of, by := make([]int, len(o.Copies)), make([]int, len(o.Runners))
			for _, s := range hold(t, o, day) {
				of[s.Piece]++
				by[s.Runner]++
				worked[s.Runner]++
				if by[s.Runner] > 1 || of[s.Piece] > o.Copies[s.Piece] {
					t.Error("P8.12:", o, day, s)
				}
			}
		}
		for n, r := range o.Runners {
			if last := stint(n, len(o.Copies)-1); waited[n]+worked[n] != d.of(last)+takes(o, last)-r.Arrives {
				t.Error("P8.19:", o, n, waited[n], worked[n])
			}
		}
	}
	smallOrders(9, 200, each)
	greatOrders(10, 6, each)
}
