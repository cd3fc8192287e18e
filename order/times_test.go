package order_test

import (
	"math/rand"
	"testing"

	"pecia/api"
	"pecia/order"
)

// numbered is n scribes with the IDs from 1 on, each of whom takes a day for each piece.
func numbered(n, pieces int) []api.Runner {
	var l []api.Runner
	for id := range n {
		l = append(l, runner(id+1, 0, same(pieces, 1)...))
	}
	return l
}

// wrongOrders is orders, and the first error of each one.
func wrongOrders() map[string]struct {
	o api.Order
	e api.Errno
} {
	a, b, wrong := runner(1, 0, 1), runner(2, 0, 1), runner(3, 0, 0)
	return map[string]struct {
		o api.Order
		e api.Errno
	}{
		"nothing":                     {api.Order{}, api.ErrArg},
		"no pieces":                   {orderOf(nil, runner(1, 0)), api.ErrArg},
		"no pieces, too many scribes": {orderOf(list(), numbered(21, 0)...), api.ErrArg},
		"too many pieces":             {orderOf(same(16, 1)), api.ErrLimit},
		"too many pieces, scribes":    {orderOf(same(16, 1), numbered(21, 16)...), api.ErrLimit},
		"too many scribes":            {orderOf(list(1), numbered(21, 1)...), api.ErrLimit},
		"too many pieces, wrong ones": {orderOf(same(16, 0)), api.ErrLimit},
		"too many, of wrong pieces":   {orderOf(list(0), numbered(21, 1)...), api.ErrLimit},
		"too many wrong scribes":      {orderOf(list(1), make([]api.Runner, 21)...), api.ErrLimit},
		"too many times the same":     {orderOf(list(1), append(numbered(20, 1), a)...), api.ErrLimit},
		"no copies":                   {orderOf(list(0), a), api.ErrArg},
		"no copies of the last piece": {orderOf(list(20, 1, 0)), api.ErrArg},
		"less than no copies":         {orderOf(list(1, -1)), api.ErrArg},
		"too many copies":             {orderOf(list(21)), api.ErrArg},
		"too many of one between":     {orderOf(list(1, 21, 1)), api.ErrArg},
		"far too many copies":         {orderOf(list(1, 1<<62)), api.ErrArg},
		"wrong copies, twice an ID":   {orderOf(list(0), a, a), api.ErrArg},
		"the ID 0":                    {orderOf(list(1), runner(0, 0, 1)), api.ErrArg},
		"an ID less than 0":           {orderOf(list(1), runner(-1, 0, 1)), api.ErrArg},
		"an ID that is too great":     {orderOf(list(1), runner(1<<40+1, 0, 1)), api.ErrArg},
		"a day less than 0":           {orderOf(list(1), runner(1, -1, 1)), api.ErrArg},
		"a day that is too great":     {orderOf(list(1), runner(1, 731, 1)), api.ErrArg},
		"a day far behind":            {orderOf(list(1), runner(1, 1<<62, 1)), api.ErrArg},
		"no days for a piece":         {orderOf(list(1), wrong), api.ErrArg},
		"less than no days":           {orderOf(list(1, 1), runner(1, 0, 1, -1)), api.ErrArg},
		"too many days":               {orderOf(list(1, 1), runner(1, 0, 61, 1)), api.ErrArg},
		"too many days for the last":  {orderOf(list(1, 1), runner(1, 0, 60, 61)), api.ErrArg},
		"days of no pieces":           {orderOf(list(1), runner(1, 0)), api.ErrArg},
		"days of fewer pieces":        {orderOf(list(1, 1), runner(1, 0, 1)), api.ErrArg},
		"days of more pieces":         {orderOf(list(1, 1), runner(1, 0, 1, 1, 1)), api.ErrArg},
		"an ID twice":                 {orderOf(list(1), a, a), api.ErrTwice},
		"an ID twice, one between":    {orderOf(list(1), a, b, runner(1, 5, 3)), api.ErrTwice},
		"twice, then a wrong one":     {orderOf(list(1), a, a, wrong), api.ErrTwice},
		"a wrong one, then twice":     {orderOf(list(1), a, wrong, a), api.ErrArg},
		"a wrong one that is twice":   {orderOf(list(1), a, runner(1, 0, 61)), api.ErrArg},
		"a wrong one behind others":   {orderOf(list(1), a, b, runner(4, 731, 1)), api.ErrArg},
		"a wrong ID behind others":    {orderOf(list(1), a, b, runner(0, 0, 1)), api.ErrArg},
		"other pieces behind others":  {orderOf(list(1), a, b, runner(4, 0, 1, 1)), api.ErrArg},
	}
}

// TestCheck is of P8.1.
func TestCheck(t *testing.T) {
	for what, o := range map[string]api.Order{
		"the example": example(), "two pieces": two(), "no scribes": none(1), "most pieces": none(15),
		"most copies":      orderOf(list(20, 1, 20), runner(1, 0, 1, 1, 1)),
		"most of all":      great(20, 730),
		"least of all":     orderOf(list(1), runner(1, 0, 1)),
		"greatest numbers": orderOf(list(1, 2), runner(1<<40, 730, 60, 60), runner(1<<40-1, 0, 1, 1)),
		"IDs in any order": orderOf(list(1), runner(3, 9, 1), runner(1, 4, 1), runner(2, 7, 1)),
	} {
		wantErr(t, what, order.Check(o), api.OK)
	}
	for what, x := range wrongOrders() {
		wantErr(t, what, order.Check(x.o), x.e)
		wantFirst(t, what, x.o, x.e)
	}
}

// wantFirst is that all functions return the error of an order first, and nothing with it.
func wantFirst(t *testing.T, what string, o api.Order, e api.Errno) {
	t.Helper()
	no := stint(-9, -9)
	d, got := order.Times(o)
	check(t, "Times: "+what, got, e, len(d) > 0)
	n, got := order.End(o)
	check(t, "End: "+what, got, e, n != 0)
	l, got := order.Path(o, no)
	check(t, "Path: "+what, got, e, len(l) > 0)
	wantErr(t, "CheckPath: "+what, order.CheckPath(o, make([]api.Stint, 36), -1), e)
	ns, got := order.Waits(o)
	check(t, "Waits: "+what, got, e, len(ns) > 0)
	ns, got = order.Idle(o)
	check(t, "Idle: "+what, got, e, len(ns) > 0)
	d, got = order.Latest(o, -1)
	check(t, "Latest: "+what, got, e, len(d) > 0)
	n, got = order.Slack(o, no)
	check(t, "Slack: "+what, got, e, n != 0)
	l, got = order.Critical(o)
	check(t, "Critical: "+what, got, e, len(l) > 0)
	l, got = order.Reach(o, no, -1)
	check(t, "Reach: "+what, got, e, len(l) > 0)
	n, got = order.Save(o, -9)
	check(t, "Save: "+what, got, e, n != 0)
	n, got = order.Need(o, -9, -1)
	check(t, "Need: "+what, got, e, n != 0)
	ns, got = order.Fewest(o, -1)
	check(t, "Fewest: "+what, got, e, len(ns) > 0)
	n, got = order.Ample(o)
	check(t, "Ample: "+what, got, e, n != 0)
	rate, n, got := order.Rate(o, -9)
	check(t, "Rate: "+what, got, e, n != 0 || rate != api.Ratio{})
	n, got = order.Alike(o, -9, 0)
	check(t, "Alike: "+what, got, e, n != 0)
	ns, n, got = order.Johnson(o)
	check(t, "Johnson: "+what, got, e, len(ns) > 0 || n != 0)
	l, got = order.Hold(o, -1)
	check(t, "Hold: "+what, got, e, len(l) > 0)
	wantFirstOfChanges(t, what, o, e)
}

func wantFirstOfChanges(t *testing.T, what string, o api.Order, e api.Errno) {
	t.Helper()
	x, got := order.Delayed(o, stint(-9, -9), -1)
	check(t, "Delayed: "+what, got, e, isOrder(x))
	x, got = order.More(o, -9)
	check(t, "More: "+what, got, e, isOrder(x))
	x, got = order.Swap(o, -9)
	check(t, "Swap: "+what, got, e, isOrder(x))
	x, got = order.Without(o, -9)
	check(t, "Without: "+what, got, e, isOrder(x))
	x, got = order.Merge(o, api.Order{})
	check(t, "Merge: "+what, got, e, isOrder(x))
	x, got = order.Merge(example(), o)
	check(t, "Merge with the example: "+what, got, e, isOrder(x))
}

func wantTimes(t *testing.T, o api.Order, last int, should ...[]int) {
	t.Helper()
	d, e := order.Times(o)
	wantErr(t, "Times", e, api.OK)
	want(t, "Times", d, should)
	want(t, "End", endOf(t, o), last)
}

// TestTimes is of P8.1.
func TestTimes(t *testing.T) {
	wantTimes(t, example(), 14, list(0, 3, 7), list(3, 5, 10), list(5, 9, 13))
	wantTimes(t, two(), 13, list(0, 3), list(3, 9), list(8, 11))
	wantTimes(t, none(3), 0)
	wantTimes(t, orderOf(list(1), runner(7, 5, 4)), 9, list(5))
	wantTimes(t, orderOf(list(1, 1, 1), runner(7, 730, 60, 1, 60)), 851, list(730, 790, 791))
	wantTimes(t, orderOf(list(1), runner(1, 9, 4), runner(2, 0, 5)), 18, list(9), list(13))                          // the copy comes from one who arrives later
	wantTimes(t, orderOf(list(1), runner(1, 0, 4), runner(2, 9, 5)), 14, list(0), list(9))                           // the copy waits
	wantTimes(t, orderOf(list(2), runner(1, 0, 60), runner(2, 0, 1)), 60, list(0), list(0))                          // the last scribe is not the one who ends last
	wantTimes(t, orderOf(list(2), runner(1, 0, 9), runner(2, 0, 1), runner(3, 0, 1)), 10, list(0), list(0), list(9)) // copies go round in turn
	wantTimes(t, orderOf(list(3), runner(1, 0, 9), runner(2, 0, 1), runner(3, 0, 1)), 9, list(0), list(0), list(0))
	wantTimes(t, orderOf(list(20, 1), runner(1, 0, 1, 9), runner(2, 0, 1, 1)), 11, list(0, 1), list(0, 10))
	want(t, "the greatest end", endOf(t, great(1, 730)), 730+34*60)
	want(t, "the greatest end, with copies for all", endOf(t, great(20, 730)), 730+15*60)
}

// TestTimesAgree is of P8.1: the times are those by going through the days.
func TestTimesAgree(t *testing.T) {
	agree := func(_ *rand.Rand, o api.Order) {
		d := times(o)
		want(t, "Times", timesOf(t, o), d)
		want(t, "End", endOf(t, o), endBy(o, d))
	}
	smallOrders(1, 500, agree)
	greatOrders(2, 60, agree)
}

// TestNoEarlier is of P8.13: nothing begins before Times, whenever else the stints begin.
func TestNoEarlier(t *testing.T) {
	smallOrders(13, 500, func(r *rand.Rand, o api.Order) {
		d, first := runs(o, func(s api.Stint) int { return r.Intn(20) }), timesOf(t, o)
		for _, s := range stints(o) {
			if first.of(s) > d.of(s) {
				t.Error("P8.13:", o, s, first, d)
			}
		}
	})
}
