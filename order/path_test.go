package order_test

import (
	"math/rand"
	"slices"
	"testing"

	"pecia/api"
	"pecia/order"
)

// isPath is whether stints are a path, by the words of the document.
func isPath(o api.Order, l []api.Stint) bool {
	if len(l) == 0 || !slices.Contains(stints(o), l[0]) || l[0].Piece != 0 {
		return false
	}
	for i := 1; i < len(l); i++ {
		if !slices.Contains(stints(o), l[i]) || !slices.Contains(before(o, l[i]), l[i-1]) {
			return false
		}
	}
	return true
}

// shown is the day that a path shows.
func shown(o api.Order, l []api.Stint) int {
	day := o.Runners[l[0].Runner].Arrives
	for _, s := range l[:len(l)-1] {
		day += takes(o, s)
	}
	return day
}

func pathOf(t *testing.T, o api.Order, s api.Stint) []api.Stint {
	t.Helper()
	l, e := order.Path(o, s)
	wantErr(t, "Path", e, api.OK)
	return l
}

// wantPaths is that each stint has a path that shows the day of its beginning.
func wantPaths(t *testing.T, o api.Order) {
	t.Helper()
	d := times(o)
	for _, s := range stints(o) {
		l := pathOf(t, o, s)
		if !isPath(o, l) || l[len(l)-1] != s || shown(o, l) != d.of(s) {
			t.Error("Path:", o, s, l, "for", d.of(s))
		}
		wantErr(t, "CheckPath of a path", order.CheckPath(o, l, d.of(s)), api.OK)
		wantErr(t, "CheckPath of a path, a day later", order.CheckPath(o, l, d.of(s)+1), api.ErrProof)
		wantErr(t, "CheckPath of a path, a day earlier", order.CheckPath(o, l, d.of(s)-1), api.ErrProof)
	}
}

// TestPath is of P8.2 and P8.12.
func TestPath(t *testing.T) {
	want(t, "Path", pathOf(t, example(), stint(2, 2)), path(0, 0, 1, 0, 1, 1, 1, 2, 2, 2))
	want(t, "Path", pathOf(t, example(), stint(0, 2)), path(0, 0, 0, 1, 0, 2))
	want(t, "Path", pathOf(t, example(), stint(0, 0)), path(0, 0))
	late := orderOf(list(1), runner(1, 0, 4), runner(2, 9, 5), runner(3, 9, 5))
	want(t, "Path from the second", pathOf(t, late, stint(2, 0)), path(1, 0, 2, 0))
	wantPaths(t, example())
	wantPaths(t, great(1, 730))
	wantPaths(t, great(20, 0))
	smallOrders(3, 300, func(_ *rand.Rand, o api.Order) { wantPaths(t, o) })
	greatOrders(4, 6, func(_ *rand.Rand, o api.Order) { wantPaths(t, o) })
	for _, o := range []api.Order{example(), two(), none(2)} {
		for _, s := range noStints(o) {
			l, e := order.Path(o, s)
			check(t, "Path", e, api.ErrArg, len(l) > 0)
		}
	}
	l, e := order.Path(none(2), stint(0, 0))
	check(t, "Path without scribes", e, api.ErrArg, len(l) > 0)
}

func wantCheckPath(t *testing.T, o api.Order, l []api.Stint, day int, should api.Errno) {
	t.Helper()
	if e := order.CheckPath(o, l, day); e != should {
		t.Errorf("CheckPath %v of %v for %d: error %d, want %d", l, o, day, e, should)
	}
}

// TestCheckPath is of P8.2.
func TestCheckPath(t *testing.T) {
	o := example()
	wantCheckPath(t, o, path(0, 0), 0, api.OK)
	wantCheckPath(t, o, path(2, 0), 2, api.OK) // it begins on the day 5
	wantCheckPath(t, o, path(1, 0, 2, 0), 3, api.OK)
	wantCheckPath(t, o, path(0, 0, 1, 0, 2, 0), 5, api.OK)
	wantCheckPath(t, o, path(0, 0, 0, 1, 2, 1), 7, api.OK) // two scribes behind, as there are two copies
	wantCheckPath(t, o, path(0, 0, 0, 1, 1, 1), 7, api.ErrProof)
	wantCheckPath(t, o, path(0, 0, 2, 0), 3, api.ErrProof) // two scribes behind, with one copy
	wantCheckPath(t, o, path(0, 0, 1, 1), 3, api.ErrProof)
	wantCheckPath(t, o, path(1, 0, 0, 0), 3, api.ErrProof)
	wantCheckPath(t, o, path(0, 0, 0, 0), 3, api.ErrProof)
	wantCheckPath(t, o, path(0, 0, 0, 2), 3, api.ErrProof)
	wantCheckPath(t, o, path(0, 1), 0, api.ErrProof)
	wantCheckPath(t, o, path(0, 1, 0, 2), 4, api.ErrProof)
	wantCheckPath(t, o, path(0, 0, 0, 1), 0, api.ErrProof)
	wantCheckPath(t, o, path(0, 0, 0, 1), 7, api.ErrProof) // the days of the last one are not shown
	wantCheckPath(t, o, path(0, 0, 0, 1, 0, 2), 7, api.OK)
	wantCheckPath(t, o, path(0, 0, 0, 1, 0, 2, 0, 3), 9, api.ErrProof)
	wantCheckPath(t, o, path(2, 0, 3, 0), 6, api.ErrProof)
	wantCheckPath(t, o, path(-1, 0, 0, 0), 0, api.ErrProof)
	wantCheckPath(t, none(2), path(0, 0), 0, api.ErrProof)
	for _, day := range append(far(), 0, -1) {
		wantCheckPath(t, o, nil, day, api.ErrProof)
		wantCheckPath(t, none(2), nil, day, api.ErrProof)
		wantCheckPath(t, o, path(2, 0), day, api.ErrProof)
	}
	for _, s := range noStints(o) {
		wantCheckPath(t, o, []api.Stint{s}, 0, api.ErrProof)
		wantCheckPath(t, o, []api.Stint{stint(0, 0), s}, 3, api.ErrProof)
	}
	for n := 2; n <= 40; n++ {
		should := api.ErrProof
		if n > 35 {
			should = api.ErrLimit
		}
		wantCheckPath(t, o, make([]api.Stint, n), 0, should)
		wantCheckPath(t, great(1, 0), slices.Repeat(path(0, 1), n), -1, should)
	}
	longest := path()
	for n := range 20 {
		longest = append(longest, stint(n, 0))
	}
	for j := 1; j < 15; j++ {
		longest = append(longest, stint(19, j))
	}
	wantCheckPath(t, great(1, 730), longest, 730+33*60, api.OK)
	wantCheckPath(t, great(2, 730), longest, 730+33*60, api.ErrProof)
}

// TestCheckPathAgrees is of P8.2 and P8.12, for all lists of up to three stints.
func TestCheckPathAgrees(t *testing.T) {
	accepted := 0
	sizes{pieces: 3, runners: 3, copies: 2, takes: 3, arrives: 4}.visitOrders(5, 60, func(_ *rand.Rand, o api.Order) {
		d := times(o)
		lists := [][]api.Stint{nil}
		for i := 0; i < len(lists); i++ {
			l := lists[i]
			for day := range 12 {
				should := api.ErrProof
				if isPath(o, l) && shown(o, l) == day {
					should = api.OK
					accepted++
					if d.of(l[len(l)-1]) < day {
						t.Error("P8.12: a stint begins before the day that a path shows:", o, l, day)
					}
				}
				wantCheckPath(t, o, l, day, should)
			}
			for _, s := range stints(o) {
				if len(l) < 3 {
					lists = append(lists, append(slices.Clone(l), s))
				}
			}
		}
	})
	if accepted < 100 {
		t.Error("too few paths:", accepted)
	}
}
