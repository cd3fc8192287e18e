package order_test

import (
	"math/rand"
	"slices"
	"testing"

	"pecia/api"
	"pecia/order"
)

// latest is the latest day on which a stint can begin so that all end by a day, by trying all days.
func latest(o api.Order, s api.Stint, by int) int {
	day := times(o).of(s)
	for endBy(o, notBefore(o, s, day+1)) <= by {
		day++
	}
	return day
}

// notBefore is the days on which the stints begin if one of them does not begin before a day.
func notBefore(o api.Order, s api.Stint, day int) days {
	return runs(o, func(other api.Stint) int {
		if other == s {
			return day
		}
		return 0
	})
}

func latestOf(t *testing.T, o api.Order, by int) days {
	t.Helper()
	d, e := order.Latest(o, by)
	wantErr(t, "Latest", e, api.OK)
	return d
}

// TestLatest is of P8.4.
func TestLatest(t *testing.T) {
	o := example()
	want(t, "Latest", latestOf(t, o, 14), days(rows(list(0, 4, 8), list(3, 5, 10), list(6, 10, 13))))
	want(t, "Latest, six days later", latestOf(t, o, 20), days(rows(list(6, 10, 14), list(9, 11, 16), list(12, 16, 19))))
	want(t, "Latest, without scribes", latestOf(t, none(2), 0), days{})
	want(t, "Latest, one stint", latestOf(t, orderOf(list(1), runner(1, 5, 3)), 8), days(rows(list(5))))
	want(t, "Latest, the last day", latestOf(t, orderOf(list(1, 1), runner(1, 5, 3, 2)), lastBy), days(rows(list(lastBy-5, lastBy-2))))
	for _, by := range append(far(), -1, lastBy+1) {
		for _, o := range []api.Order{o, none(1)} {
			d, e := order.Latest(o, by)
			check(t, "Latest", e, api.ErrArg, len(d) > 0)
		}
	}
	for _, by := range list(0, 1, 12, 13) {
		d, e := order.Latest(o, by)
		check(t, "Latest, too early", e, api.ErrNone, len(d) > 0)
	}
}

// TestLatestAgrees is of P8.4: the latest days are those by trying all days.
func TestLatestAgrees(t *testing.T) {
	sizes{pieces: 3, runners: 5, copies: 3, takes: 5, arrives: 6}.visitOrders(11, 150, func(r *rand.Rand, o api.Order) {
		by := end(o) + r.Intn(3)
		d := latestOf(t, o, by)
		want(t, "lists of Latest", len(d), len(o.Runners))
		for _, s := range stints(o) {
			want(t, "numbers of Latest", len(d[s.Runner]), len(o.Copies))
			want(t, "Latest", d.of(s), latest(o, s, by))
		}
		if len(o.Runners) > 0 {
			d, e := order.Latest(o, end(o)-1)
			check(t, "Latest, a day too early", e, api.ErrNone, len(d) > 0)
		}
	})
}

func slack(t *testing.T, o api.Order, s api.Stint) int {
	t.Helper()
	n, e := order.Slack(o, s)
	wantErr(t, "Slack", e, api.OK)
	return n
}

func critical(t *testing.T, o api.Order) []api.Stint {
	t.Helper()
	l, e := order.Critical(o)
	wantErr(t, "Critical", e, api.OK)
	return l
}

// TestSlack is of P8.4.
func TestSlack(t *testing.T) {
	o := example()
	want(t, "Critical", critical(t, o), path(0, 0, 1, 0, 1, 1, 1, 2, 2, 2))
	want(t, "Critical, without scribes", critical(t, none(3)), path())
	want(t, "Critical, the only scribe", critical(t, orderOf(list(3, 1), runner(4, 9, 2, 2))), path(0, 0, 0, 1))
	for i, should := range list(0, 1, 1, 0, 0, 0, 1, 1, 0) {
		want(t, "Slack", slack(t, o, stints(o)[i]), should)
	}
	for _, o := range []api.Order{o, two(), none(2)} {
		for _, s := range noStints(o) {
			n, e := order.Slack(o, s)
			check(t, "Slack", e, api.ErrArg, n != 0)
		}
	}
	sizes{pieces: 3, runners: 5, copies: 3, takes: 5, arrives: 6}.visitOrders(12, 150, func(_ *rand.Rand, o api.Order) {
		d, by := times(o), end(o)
		without := chosen(o, func(s api.Stint) bool { return latest(o, s, by) == d.of(s) })
		want(t, "Critical", critical(t, o), without)
		for _, s := range stints(o) {
			want(t, "Slack", slack(t, o, s), latest(o, s, by)-d.of(s))
		}
	})
}

// TestLater is of P8.14.
func TestLater(t *testing.T) {
	each := func(r *rand.Rand, o api.Order) {
		by := endOf(t, o)
		d := latestOf(t, o, by+r.Intn(9))
		for _, s := range stints(o) {
			for _, b := range before(o, s) {
				if d.of(b)+takes(o, b) > d.of(s) {
					t.Error("P8.14: what is waited for has not ended:", o, s, b, d)
				}
			}
			for _, days := range list(0, 1, slack(t, o, s), slack(t, o, s)+1, slack(t, o, s)+5) {
				if late, e := order.Delayed(o, s, days); e == api.OK {
					want(t, "P8.14: the end of a delay", endOf(t, late), by+max(0, days-slack(t, o, s)))
				}
			}
		}
		if len(o.Runners) > 0 && !slices.ContainsFunc(critical(t, o), func(s api.Stint) bool { return isThread(t, o, s, by) }) {
			t.Error("P8.14: no path of critical stints:", o)
		}
	}
	smallOrders(14, 200, each)
	greatOrders(15, 4, each)
}

// isThread is whether a path of critical stints leads to a stint with which all end.
func isThread(t *testing.T, o api.Order, s api.Stint, by int) bool {
	t.Helper()
	d, all := timesOf(t, o), critical(t, o)
	if d.of(s)+takes(o, s) != by || !slices.Contains(all, s) {
		return false
	}
	for d.of(s) != o.Runners[s.Runner].Arrives || s.Piece != 0 {
		back := slices.IndexFunc(before(o, s), func(b api.Stint) bool { return slices.Contains(all, b) && d.of(b)+takes(o, b) == d.of(s) })
		if back < 0 {
			return false
		}
		s = before(o, s)[back]
	}
	return true
}
