package order_test

import (
	"math/rand"
	"slices"
	"testing"

	"pecia/api"
	"pecia/order"
)

func wantMore(t *testing.T, o api.Order, piece int, should api.Errno) {
	t.Helper()
	got, e := order.More(o, piece)
	n, e2 := order.Save(o, piece)
	if should != api.OK {
		check(t, "More", e, should, isOrder(got))
		check(t, "Save", e2, should, n != 0)
		return
	}
	wantErr(t, "More", e, api.OK)
	wantErr(t, "Save", e2, api.OK)
	more := withPiece(o, piece, o.Copies[piece]+1)
	wantOrder(t, "More", got, more)
	want(t, "Save", n, end(o)-end(more))
}

// worse is an order that ends later with one more copy of its piece.
func worse() api.Order {
	return orderOf(list(2), runner(1, 0, 9), runner(2, 0, 2), runner(3, 0, 2), runner(4, 0, 9))
}

// TestMore is of P8.6.
func TestMore(t *testing.T) {
	for piece, should := range list(1, 0, 1) {
		n, e := order.Save(example(), piece)
		wantErr(t, "Save", e, api.OK)
		want(t, "Save", n, should)
		wantMore(t, example(), piece, api.OK)
	}
	n, e := order.Save(worse(), 0)
	wantErr(t, "Save", e, api.OK)
	want(t, "Save, where all end later", n, 11-18)
	wantMore(t, none(2), 1, api.OK)
	wantMore(t, orderOf(list(19, 20), runner(1, 0, 1, 1)), 0, api.OK)
	wantMore(t, orderOf(list(19, 20), runner(1, 0, 1, 1)), 1, api.ErrLimit)
	wantMore(t, orderOf(list(20)), 0, api.ErrLimit)
	for _, o := range []api.Order{example(), none(2), great(20, 0)} {
		for _, piece := range outside(len(o.Copies)) {
			wantMore(t, o, piece, api.ErrArg)
		}
	}
	less := 0
	smallOrders(18, 1000, func(r *rand.Rand, o api.Order) {
		piece := r.Intn(len(o.Copies))
		wantMore(t, o, piece, api.OK)
		if n, _ := order.Save(o, piece); n < 0 {
			less++
		}
	})
	if less == 0 {
		t.Error("no order ends later with one more copy")
	}
}

// need is the least number of copies of a piece with which all end by a day, by trying all numbers; 0, if there is none.
func need(o api.Order, piece, by int) int {
	for n := 1; n <= api.MaxSame; n++ {
		if end(withPiece(o, piece, n)) <= by {
			return n
		}
	}
	return 0
}

func wantNeed(t *testing.T, o api.Order, piece, by, should int) {
	t.Helper()
	n, e := order.Need(o, piece, by)
	if should == 0 {
		check(t, "Need", e, api.ErrNone, n != 0)
		return
	}
	wantErr(t, "Need", e, api.OK)
	want(t, "Need", n, should)
}

// TestNeed is of P8.6 and P8.16.
func TestNeed(t *testing.T) {
	o := example()
	wantNeed(t, o, 0, 13, 2)
	wantNeed(t, o, 1, 13, 0)
	wantNeed(t, o, 2, 13, 2)
	wantNeed(t, o, 2, 20, 1)
	wantNeed(t, o, 0, 0, 0)
	wantNeed(t, o, 1, lastBy, 1)
	wantNeed(t, none(2), 1, 0, 1)
	wantNeed(t, great(20, 730), 0, 730+15*60, 20)
	wantNeed(t, great(20, 730), 14, 730+15*60-1, 0)
	for _, by := range append(far(), -1, lastBy+1) {
		for _, o := range []api.Order{o, none(1)} {
			n, e := order.Need(o, 0, by)
			check(t, "Need", e, api.ErrArg, n != 0)
		}
	}
	for _, piece := range outside(3) {
		for _, by := range list(-1, 0, 20) {
			n, e := order.Need(o, piece, by)
			check(t, "Need", e, api.ErrArg, n != 0)
		}
	}
	smallOrders(19, 400, func(r *rand.Rand, o api.Order) {
		piece := r.Intn(len(o.Copies))
		by := max(0, end(o)-r.Intn(5))
		wantNeed(t, o, piece, by, need(o, piece, by))
	})
}

// TestNeedIsLeast is of P8.6: fewer copies are told also where a number between is not enough.
func TestNeedIsLeast(t *testing.T) {
	between := 0
	sizes{pieces: 2, runners: 8, copies: 3, takes: 9, arrives: 9}.visitOrders(20, 300, func(r *rand.Rand, o api.Order) {
		piece := r.Intn(len(o.Copies))
		for copies := 1; copies < 8; copies++ {
			by := end(withPiece(o, piece, copies))
			if end(withPiece(o, piece, copies+1)) > by {
				between++
			}
			wantNeed(t, o, piece, by, need(o, piece, by))
		}
	})
	if between < 20 {
		t.Error("too few orders that end later with one more copy:", between)
	}
}

// wantNoLater is that nothing begins later in an order than in another one.
func wantNoLater(t *testing.T, o, than api.Order) {
	t.Helper()
	d, d2 := timesOf(t, o), timesOf(t, than)
	for _, s := range stints(o) {
		if d.of(s) > d2.of(s) {
			t.Error("P8.16: a stint begins later:", o, than, s)
		}
	}
}

// TestCopies is of P8.16 and P8.7.
func TestCopies(t *testing.T) {
	each := func(r *rand.Rand, o api.Order) {
		piece, n := r.Intn(len(o.Copies)), max(1, len(o.Runners))
		wantNoLater(t, withPiece(o, piece, 2), withPiece(o, piece, 1))
		if n > 1 {
			wantNoLater(t, withPiece(o, piece, n), withPiece(o, piece, n-1))
		}
		if n < api.MaxSame {
			want(t, "P8.16: more copies than scribes", timesOf(t, withPiece(o, piece, n+1)), timesOf(t, withPiece(o, piece, n)))
		}
		plenty := withCopies(o, same(len(o.Copies), n)...)
		l, e := order.Waits(plenty)
		wantErr(t, "Waits", e, api.OK)
		want(t, "P8.16: nobody waits", l, make([]int, len(o.Runners)))
		last, e := order.Ample(o)
		wantErr(t, "Ample", e, api.OK)
		want(t, "Ample", last, ample(o))
		want(t, "P8.16: the end", endOf(t, plenty), last)
	}
	smallOrders(21, 200, each)
	greatOrders(22, 40, each)
	for _, o := range []api.Order{none(1), none(15)} {
		n, e := order.Ample(o)
		wantErr(t, "Ample", e, api.OK)
		want(t, "Ample, without scribes", n, 0)
	}
	n, e := order.Ample(example())
	wantErr(t, "Ample", e, api.OK)
	want(t, "Ample", n, 11)
}

// allCopies is all lists of so many numbers from 1 to the most, the first ones first.
func allCopies(long, most int) [][]int {
	all := rows(nil)
	for range long {
		var more [][]int
		for _, l := range all {
			for n := 1; n <= most; n++ {
				more = append(more, append(slices.Clone(l), n))
			}
		}
		all = more
	}
	return all
}

// fewest is the copies with the least sum, and the first ones of several, with which all end by a day, by trying all; none, if there are none.
func fewest(o api.Order, by int) []int {
	var best []int
	for _, l := range allCopies(len(o.Copies), max(1, len(o.Runners))) {
		if (best == nil || sum(l) < sum(best)) && end(withCopies(o, l...)) <= by {
			best = l
		}
	}
	return best
}

func wantFewest(t *testing.T, o api.Order, by int, should ...int) {
	t.Helper()
	l, e := order.Fewest(o, by)
	if should == nil {
		check(t, "Fewest", e, api.ErrNone, len(l) > 0)
		return
	}
	wantErr(t, "Fewest", e, api.OK)
	want(t, "Fewest", l, should)
}

// TestFewest is of P8.20.
func TestFewest(t *testing.T) {
	for _, copies := range [][]int{list(1, 2, 1), list(20, 20, 20), list(1, 1, 1), list(2, 9, 3)} {
		o := withCopies(example(), copies...)
		wantFewest(t, o, 13, 1, 2, 2)
		wantFewest(t, o, 12, 2, 2, 2)
		wantFewest(t, o, 10)
		wantFewest(t, o, 0)
		wantFewest(t, o, 11, fewest(o, 11)...)
		wantFewest(t, o, lastBy, 1, 1, 1)
	}
	wantFewest(t, none(1), 0, 1)
	wantFewest(t, none(4), lastBy, 1, 1, 1, 1)
	six := orderOf(list(1, 1, 1, 1), numbered(6, 4)...)
	wantFewest(t, six, 4, 6, 6, 6, 6)
	wantFewest(t, six, 3)
	wantFewest(t, six, 9, 1, 1, 1, 1)
	wantFewest(t, six, 8, 2, 2, 2, 2)
	wantFewest(t, orderOf(list(3), runner(1, 5, 3)), 8, 1)
	wantFewest(t, orderOf(list(3), runner(1, 5, 3)), 7)
	five, seven := orderOf(same(5, 1), runner(1, 0, same(5, 60)...)), orderOf(list(1), numbered(7, 1)...)
	for _, o := range []api.Order{five, seven, none(5), none(15), great(1, 0)} {
		for _, by := range list(0, 5, lastBy) {
			l, e := order.Fewest(o, by)
			check(t, "Fewest", e, api.ErrLimit, len(l) > 0)
		}
	}
	for _, o := range []api.Order{example(), five, seven, none(1)} {
		for _, by := range append(far(), -1, lastBy+1) {
			l, e := order.Fewest(o, by)
			check(t, "Fewest", e, api.ErrArg, len(l) > 0)
		}
	}
}

// TestFewestAgrees is of P8.20 and P8.22: the copies are those by trying all.
func TestFewestAgrees(t *testing.T) {
	agree := func(r *rand.Rand, o api.Order) {
		for _, by := range list(end(o), max(0, end(o)-1-r.Intn(4)), ample(o)) {
			wantFewest(t, o, by, fewest(o, by)...)
		}
		most := 0
		for _, n := range o.Copies {
			most = max(most, n)
		}
		if l, e := order.Fewest(o, end(o)); most <= len(o.Runners) && (e != api.OK || sum(l) > sum(o.Copies)) {
			t.Error("P8.22: more copies than there are:", o, l, e)
		}
		if ample(o) > 0 {
			wantFewest(t, o, ample(o)-1)
		}
	}
	sizes{pieces: 3, runners: 4, copies: 4, takes: 6, arrives: 8}.visitOrders(25, 150, agree)
	sizes{pieces: 4, runners: 6, copies: 4, takes: 6, arrives: 8}.visitOrders(26, 12, agree)
}
