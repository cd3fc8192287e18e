package order_test

import (
	"math/rand"
	"testing"

	"pecia/api"
	"pecia/order"
)

// longer is an order in which a stint takes so many days more.
func longer(o api.Order, s api.Stint, more int) api.Order {
	o = other(o)
	o.Runners[s.Runner].Takes[s.Piece] += more
	return o
}

func wantDelayed(t *testing.T, o api.Order, s api.Stint, more int, should api.Errno) {
	t.Helper()
	got, e := order.Delayed(o, s, more)
	l, e2 := order.Reach(o, s, more)
	if should != api.OK {
		check(t, "Delayed", e, should, isOrder(got))
		check(t, "Reach", e2, should, len(l) > 0)
		return
	}
	wantErr(t, "Delayed", e, api.OK)
	wantErr(t, "Reach", e2, api.OK)
	late := longer(o, s, more)
	wantOrder(t, "Delayed", got, late)
	d, d2 := times(o), times(late)
	want(t, "Reach", l, chosen(o, func(s api.Stint) bool { return d2.of(s) > d.of(s) }))
}

// TestDelayed is of P8.5.
func TestDelayed(t *testing.T) {
	o := example()
	for more, should := range [][]api.Stint{path(), path(0, 2), path(0, 2, 1, 2, 2, 2)} {
		l, e := order.Reach(o, stint(0, 1), more)
		wantErr(t, "Reach", e, api.OK)
		want(t, "Reach", l, should)
	}
	wantDelayed(t, o, stint(2, 2), 59, api.OK)
	wantDelayed(t, o, stint(2, 2), 60, api.ErrLimit)
	wantDelayed(t, o, stint(2, 2), 61, api.ErrArg)
	wantDelayed(t, o, stint(2, 2), 0, api.OK)
	wantDelayed(t, o, stint(0, 0), 57, api.OK)
	wantDelayed(t, o, stint(0, 0), 58, api.ErrLimit)
	wantDelayed(t, great(1, 730), stint(19, 14), 0, api.OK)
	wantDelayed(t, great(1, 730), stint(19, 14), 1, api.ErrLimit)
	for _, more := range append(far(), -1, 61) {
		wantDelayed(t, o, stint(1, 1), more, api.ErrArg)
	}
	for _, s := range noStints(o) {
		wantDelayed(t, o, s, 1, api.ErrArg)
		wantDelayed(t, o, s, 60, api.ErrArg)
	}
	wantDelayed(t, none(3), stint(0, 0), 1, api.ErrArg)
	smallOrders(16, 200, func(r *rand.Rand, o api.Order) {
		if len(o.Runners) > 0 {
			wantDelayed(t, o, someStint(r, o), r.Intn(7), api.OK)
		}
	})
}

// TestReach is of P8.15: a delay makes nothing later by more days than it has.
func TestReach(t *testing.T) {
	greatOrders(17, 60, func(r *rand.Rand, o api.Order) {
		if len(o.Runners) == 0 {
			return
		}
		s := someStint(r, o)
		more := r.Intn(api.MaxTakes - takes(o, s) + 1)
		late, e := order.Delayed(o, s, more)
		wantErr(t, "Delayed", e, api.OK)
		d, d2 := timesOf(t, o), timesOf(t, late)
		for _, s := range stints(o) {
			if d2.of(s) < d.of(s) || d2.of(s) > d.of(s)+more {
				t.Error("P8.15:", o, s, more)
			}
		}
		if n := endOf(t, late) - endOf(t, o); n < 0 || n > more {
			t.Error("P8.15: the end:", o, s, more, n)
		}
	})
}

// TestSwap is of P8.8.
func TestSwap(t *testing.T) {
	a, b, c := runner(5, 9, 3, 1), runner(2, 0, 2, 2), runner(7, 4, 1, 60)
	o := orderOf(list(1, 20), a, b, c)
	for n, should := range []api.Order{orderOf(list(1, 20), b, a, c), orderOf(list(1, 20), a, c, b)} {
		got, e := order.Swap(o, n)
		wantErr(t, "Swap", e, api.OK)
		wantOrder(t, "Swap", got, should)
	}
	for n, should := range []api.Order{orderOf(list(1, 20), b, c), orderOf(list(1, 20), a, c), orderOf(list(1, 20), a, b)} {
		got, e := order.Without(o, n)
		wantErr(t, "Without", e, api.OK)
		wantOrder(t, "Without", got, should)
	}
	one := orderOf(list(1, 20), c)
	got, e := order.Without(one, 0)
	wantErr(t, "Without the only one", e, api.OK)
	wantOrder(t, "Without the only one", got, orderOf(list(1, 20)))
	for _, o := range []api.Order{o, one} {
		got, e := order.Swap(o, len(o.Runners)-1)
		check(t, "Swap of the last one", e, api.ErrNone, isOrder(got))
	}
	for _, o := range []api.Order{o, one, none(2)} {
		for _, n := range outside(len(o.Runners)) {
			got, e := order.Swap(o, n)
			check(t, "Swap", e, api.ErrArg, isOrder(got))
			got, e = order.Without(o, n)
			check(t, "Without", e, api.ErrArg, isOrder(got))
		}
	}
}

func wantMerge(t *testing.T, a, b api.Order, should api.Errno) {
	t.Helper()
	got, e := order.Merge(a, b)
	if should != api.OK {
		check(t, "Merge", e, should, isOrder(got))
		return
	}
	wantErr(t, "Merge", e, api.OK)
	both := other(a)
	both.Runners = append(both.Runners, b.Runners...)
	wantOrder(t, "Merge", got, both)
}

// TestMerge is of P8.21.
func TestMerge(t *testing.T) {
	o, p := example(), orderOf(list(1, 2, 1), runner(9, 730, 60, 1, 1), runner(4, 0, 1, 1, 60))
	same3 := orderOf(list(1, 2, 1), runner(8, 0, 1, 1, 1), runner(3, 0, 1, 1, 1))
	wantMerge(t, o, p, api.OK)
	wantMerge(t, p, o, api.OK)
	wantMerge(t, o, orderOf(list(1, 2, 1)), api.OK)
	wantMerge(t, orderOf(list(1, 2, 1)), o, api.OK)
	wantMerge(t, none(1), none(1), api.OK)
	wantMerge(t, o, same3, api.ErrTwice)
	wantMerge(t, o, o, api.ErrTwice)
	wantMerge(t, o, none(2), api.ErrState)
	wantMerge(t, o, none(3), api.ErrState)
	wantMerge(t, o, withCopies(example(), 1, 2, 2), api.ErrState)
	wantMerge(t, none(2), none(3), api.ErrState)
	wantMerge(t, withCopies(none(1), 1), none(1), api.ErrState)
	wrong, twice := orderOf(list(3), runner(0, 0, 1)), orderOf(list(4), runner(1, 0, 1), runner(1, 0, 1))
	wantMerge(t, wrong, twice, api.ErrArg)
	wantMerge(t, twice, wrong, api.ErrTwice)
	wantMerge(t, o, wrong, api.ErrArg)
	wantMerge(t, o, twice, api.ErrTwice)
	many := func(from, n int, copies ...int) api.Order {
		x := orderOf(copies)
		for id := range n {
			x.Runners = append(x.Runners, runner(from+id, 0, 1))
		}
		return x
	}
	wantMerge(t, many(1, 12, 3), many(13, 8, 3), api.OK)
	wantMerge(t, many(1, 20, 3), many(21, 0, 3), api.OK)
	wantMerge(t, many(1, 13, 3), many(14, 8, 3), api.ErrLimit)
	wantMerge(t, many(1, 20, 3), many(1, 20, 3), api.ErrLimit) // ahead of ErrTwice
	wantMerge(t, many(1, 20, 3), many(1, 20, 2), api.ErrState) // ahead of ErrLimit
	wantMerge(t, many(1, 20, 3), many(1, 21, 2), api.ErrLimit) // of the second one
}

// apart is two orders of the same copies, each with its own scribes.
func apart(r *rand.Rand, o api.Order) (api.Order, api.Order) {
	n := r.Intn(len(o.Runners) + 1)
	a, b := other(o), other(o)
	a.Runners, b.Runners = a.Runners[:n], b.Runners[n:]
	return a, b
}

// TestMerged is of P8.23.
func TestMerged(t *testing.T) {
	each := func(r *rand.Rand, o api.Order) {
		a, b := apart(r, o)
		both, e := order.Merge(a, b)
		wantErr(t, "Merge", e, api.OK)
		d, d1, d2 := timesOf(t, both), timesOf(t, a), timesOf(t, b)
		want(t, "P8.23: the first scribes", d[:len(a.Runners)], d1)
		for _, s := range stints(b) {
			if d[len(a.Runners)+s.Runner][s.Piece] < d2.of(s) {
				t.Error("P8.23: the second scribes begin earlier:", a, b)
			}
		}
		n, n1, n2 := endOf(t, both), endOf(t, a), endOf(t, b)
		if n < max(n1, n2) || n > n1+n2 {
			t.Error("P8.23: the end:", a, b, n, n1, n2)
		}
	}
	smallOrders(23, 300, each)
	greatOrders(24, 40, each)
}
