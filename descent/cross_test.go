package descent_test

import (
	"math"
	"math/rand"
	"testing"

	"pecia/api"
	"pecia/descent"
)

func crossing(a, b, both, one, other int) api.Crossing {
	return api.Crossing{A: a, B: b, Both: both, One: one, Other: other}
}

func wantCross(t *testing.T, s api.Stock, should api.Crossing, is bool) {
	t.Helper()
	x, crosses, e := descent.Cross(s)
	wantErr(t, "Cross", e, api.OK)
	if x != should || crosses != is {
		t.Error("Cross", s, x, crosses, "want", should, is)
	}
	if is {
		wantErr(t, "CheckCross of Cross", descent.CheckCross(s, x), api.OK)
	}
}

// pairs is copies in which n pairs of slips cross, 1 and 2, 3 and 4, and so on, and none else.
func pairs(n int) api.Stock {
	var s api.Stock
	for i := range n {
		a, b := 2*i+1, 2*i+2
		s.Copies = append(s.Copies, made(3*i+1, 0, 0, a, b), made(3*i+2, 0, 0, a), made(3*i+3, 0, 0, b))
	}
	return s
}

// TestCross is of P5.2.
func TestCross(t *testing.T) {
	none := api.Crossing{}
	wantCross(t, example(), none, false) // the chapter's examples
	wantCross(t, crossed(), crossing(10, 20, 2, 1, 6), true)
	for _, s := range []api.Stock{
		{},
		stock(made(1, 0, 0)),
		stock(made(1, 0, 0, 1, 2)),
		stock(made(1, 0, 0, 1, 2), made(2, 0, 0, 1, 2)),
		stock(made(1, 0, 0, 1, 2), made(2, 0, 0, 1)),
		stock(made(1, 0, 0, 1, 2), made(2, 0, 0, 2), made(3, 0, 0)),
		stock(made(1, 0, 0, 1), made(2, 0, 0, 2), made(3, 0, 0)),
		stock(made(1, 0, 0, 1, 2), mended(made(2, 0, 0, 1), 2), made(3, 0, 0, 1, 2)),
		stock(mended(made(1, 0, 0, 1), 2), made(2, 0, 0, 1), made(3, 0, 0, 2)), // what was mended does not count
	} {
		wantCross(t, s, none, false)
	}
	wantCross(t, stock(made(1, 0, 0, 1, 2), made(2, 0, 0, 1), made(3, 0, 0, 2)), crossing(1, 2, 1, 2, 3), true)
	wantCross(t, stock(made(3, 0, 0, 1), made(2, 9, 9, 2), made(1, 5, 5, 1, 2)), crossing(1, 2, 1, 3, 2), true)
	wantCross(t, pairs(2), crossing(1, 2, 1, 2, 3), true)
	// The first A, then the first B, then the least ID of each kind, in whatever order the copies stand.
	wantCross(t, stock(made(7, 0, 0, 5, 9), made(6, 0, 0, 5), made(5, 0, 0, 9), made(4, 0, 0, 3, 9), made(3, 0, 0, 3), made(2, 0, 0, 9)), crossing(3, 9, 4, 3, 2), true)
	wantCross(t, stock(made(9, 0, 0, 1, 2, 3), made(8, 0, 0, 1), made(7, 0, 0, 2), made(6, 0, 0, 3), made(5, 0, 0, 1, 3)), crossing(1, 2, 9, 5, 7), true)
	wantCross(t, stock(made(9, 0, 0, 1, 2, 3), made(8, 0, 0, 1, 2), made(7, 0, 0, 3), made(6, 0, 0, 3)), crossing(1, 3, 9, 8, 6), true)
	wantCross(t, stock(made(30, 0, 0, 8, api.MaxID), made(20, 0, 0, 8), made(10, 0, 0, api.MaxID)), crossing(8, api.MaxID, 30, 20, 10), true)
}

// TestCrossAgrees is of P5.2, by trying all slips and copies of small stocks.
func TestCrossAgrees(t *testing.T) {
	some, none := 0, 0
	smallStocks(2, 2500, func(_ *rand.Rand, s api.Stock) {
		all := crossings(s)
		if len(all) == 0 {
			none++
			wantCross(t, s, api.Crossing{}, false)
			return
		}
		some++
		should := all[0] // of the first slips
		for _, x := range all {
			if x.A == should.A && x.B == should.B {
				should.Both, should.One, should.Other = min(should.Both, x.Both), min(should.One, x.One), min(should.Other, x.Other)
			}
		}
		wantCross(t, s, should, true)
	})
	if some < 300 || none < 300 {
		t.Error("too few of a sort:", some, none)
	}
}

// TestCheckCross is of P5.2: any crossing will do, also with A greater than B.
func TestCheckCross(t *testing.T) {
	s := crossed()
	for _, x := range []struct {
		x api.Crossing
		e api.Errno
	}{
		{crossing(10, 20, 2, 1, 6), api.OK},
		{crossing(10, 20, 5, 4, 6), api.OK},
		{crossing(20, 10, 3, 6, 4), api.OK},
		{crossing(40, 10, 4, 6, 2), api.OK},
		{crossing(40, 20, 6, 4, 3), api.OK},
		{crossing(10, 20, 1, 1, 6), api.ErrProof},
		{crossing(10, 20, 6, 1, 6), api.ErrProof},
		{crossing(10, 20, 2, 2, 6), api.ErrProof},
		{crossing(10, 20, 2, 6, 6), api.ErrProof},
		{crossing(10, 20, 2, 1, 2), api.ErrProof},
		{crossing(10, 20, 2, 1, 1), api.ErrProof},
		{crossing(10, 20, 2, 6, 1), api.ErrProof},
		{crossing(10, 10, 2, 1, 6), api.ErrProof},
		{crossing(10, 10, 1, 1, 1), api.ErrProof},
		{crossing(10, 20, 7, 1, 6), api.ErrProof},
		{crossing(10, 20, 2, 7, 6), api.ErrProof},
		{crossing(10, 20, 2, 1, 7), api.ErrProof},
		{crossing(10, 20, 0, 1, 6), api.ErrProof},
		{crossing(10, 20, 2, 0, 6), api.ErrProof},
		{crossing(10, 20, 2, 1, 0), api.ErrProof},
		{crossing(10, 30, 3, 1, 6), api.ErrProof}, // they do not cross: no copy has 30 alone
		{crossing(10, 99, 2, 1, 6), api.ErrProof},
		{crossing(99, 20, 2, 1, 6), api.ErrProof},
		{crossing(0, 0, 0, 0, 0), api.ErrProof},
		{crossing(0, 10, 1, 6, 1), api.ErrProof},
		{crossing(math.MaxInt, math.MinInt, -1, math.MaxInt, math.MinInt), api.ErrProof},
	} {
		wantErr(t, "CheckCross", descent.CheckCross(s, x.x), x.e)
	}
	wantErr(t, "CheckCross of nothing", descent.CheckCross(api.Stock{}, api.Crossing{}), api.ErrProof)
	wantErr(t, "CheckCross of what was mended", descent.CheckCross(stock(mended(made(1, 0, 0, 1), 2), made(2, 0, 0, 1), made(3, 0, 0, 2)), crossing(1, 2, 1, 2, 3)), api.ErrProof)
}

// TestCheckCrossAgrees is of P5.2, by trying all slips and copies of small stocks.
func TestCheckCrossAgrees(t *testing.T) {
	smallStocks(3, 60, func(_ *rand.Rand, s api.Stock) {
		ids := append(idsOf(s), 100)
		for a := range 7 {
			for b := range 7 {
				for _, both := range ids {
					for _, one := range ids {
						for _, other := range ids {
							should := api.ErrProof
							x := crossing(a, b, both, one, other)
							if isCrossing(s, x) {
								should = api.OK
							}
							if e := descent.CheckCross(s, x); e != should {
								t.Error("CheckCross", s, x, e, should)
							}
						}
					}
				}
			}
		}
	})
}

// drops is all lists of so many of some slips, in order.
func drops(slips []int, n int) [][]int {
	if n == 0 {
		return [][]int{nil}
	}
	var all [][]int
	for i, slip := range slips {
		for _, l := range drops(slips[i+1:], n-1) {
			all = append(all, append(list(slip), l...))
		}
	}
	return all
}

// firstDrop is the first of the fewest slips without which no slips cross each other, by trying all; false if too many are needed.
func firstDrop(s api.Stock) ([]int, bool) {
	for n := range api.MaxDrop + 1 {
		for _, l := range drops(slipsOf(s), n) {
			if !anyCross(s, l...) {
				return l, true
			}
		}
	}
	return nil, false
}

func wantDrop(t *testing.T, s api.Stock, should ...int) {
	t.Helper()
	l, e := descent.Drop(s)
	wantErr(t, "Drop", e, api.OK)
	want(t, "Drop", l, should)
}

// TestDrop is of P5.4.
func TestDrop(t *testing.T) {
	wantDrop(t, api.Stock{})
	wantDrop(t, stock(made(1, 0, 0, 1, 2)))
	wantDrop(t, example())
	wantDrop(t, crossed(), 10, 20) // the chapter's example
	wantDrop(t, pairs(1), 1)
	wantDrop(t, pairs(2), 1, 3)
	wantDrop(t, pairs(3), 1, 3, 5)
	for n := 4; n <= 8; n++ {
		l, e := descent.Drop(pairs(n))
		check(t, "Drop of too many", e, api.ErrLimit, len(l) > 0)
	}
	// One slip that crosses all others, which do not cross each other.
	star := func(greatest bool) api.Stock {
		s := stock()
		for i := range 5 {
			a, b := 10+i, 5
			if greatest {
				b = 50
			}
			s.Copies = append(s.Copies, made(2*i+1, 0, 0, min(a, b), max(a, b)), made(2*i+2, 0, 0, a))
		}
		return s
	}
	wantDrop(t, star(false), 5)
	wantDrop(t, star(true), 50)
	// 1 crosses 5, 2 crosses 4: of the sets 1 2, 1 4, 2 5 and 4 5 the first one.
	wantDrop(t, stock(made(1, 0, 0, 1, 5), made(2, 0, 0, 1), made(3, 0, 0, 5), made(4, 0, 0, 2, 4), made(5, 0, 0, 2), made(6, 0, 0, 4)), 1, 2)
	// 7 crosses 1 and 2, and 3 crosses 9: fewer slips come ahead of lesser ones.
	wantDrop(t, stock(made(1, 0, 0, 1, 7), made(2, 0, 0, 1), made(3, 0, 0, 7), made(4, 0, 0, 2, 7), made(5, 0, 0, 2), made(6, 0, 0, 3, 9), made(7, 0, 0, 3), made(8, 0, 0, 9)), 3, 7)
}

// TestDropAgrees is of P5.4 and P5.12, by trying all sets of few slips.
func TestDropAgrees(t *testing.T) {
	r := rand.New(rand.NewSource(4))
	sizes := map[int]int{}
	for range 1500 {
		s := someStock(r, r.Intn(10), 1+r.Intn(8))
		if r.Intn(2) == 0 {
			for i := range s.Copies { // few slips for many copies: fewer cross
				s.Copies[i].Mended, s.Copies[i].Slips = nil, someOf(r, s.Copies[i].Slips, 2)
			}
		}
		should, can := firstDrop(s)
		l, e := descent.Drop(s)
		if !can {
			sizes[api.MaxDrop+1]++
			check(t, "P5.12: Drop of too many", e, api.ErrLimit, len(l) > 0)
			continue
		}
		sizes[len(should)]++
		wantErr(t, "P5.12: Drop", e, api.OK)
		want(t, "P5.12: Drop", l, should)
	}
	for n := range api.MaxDrop + 2 {
		if sizes[n] < 50 {
			t.Error("too few of a size:", sizes)
		}
	}
}

// fullStock is a stock of as many copies with as many slips as there can be, all of them different, but for those that all copies of a third have.
func fullStock() api.Stock {
	var s api.Stock
	for i := range api.MaxCopies {
		slips := append(list(1+i%3), upTo(100*(i+1), 100*(i+1)+api.MaxMarks-2)...)
		s.Copies = append(s.Copies, made(i+1, i, i, slips...))
	}
	return s
}

// TestGreatCrossings is of P5.2 and P5.4, for as many slips as there can be.
func TestGreatCrossings(t *testing.T) {
	s := fullStock()
	l, e := descent.Slips(s)
	if e != api.OK || len(l) != 3+api.MaxCopies*(api.MaxMarks-1) {
		t.Error("Slips of most", len(l), e)
	}
	wantCross(t, s, api.Crossing{}, false)
	wantDrop(t, s)
	// share lets copies have a slip in place of their last one but so many.
	share := func(slip, but int, copies ...int) {
		for _, i := range copies {
			l := s.Copies[i].Slips
			l[len(l)-1-but] = slip
		}
	}
	share(9001, 0, 0, 1) // it crosses 1 and 2
	wantCross(t, s, crossing(1, 9001, 1, 4, 2), true)
	wantDrop(t, s, 9001)
	share(9001, 1, 0, 1)
	share(9002, 0, 0, 1)
	wantCross(t, s, crossing(1, 9001, 1, 4, 2), true)
	wantDrop(t, s, 1, 2)
	share(9001, 2, 0)
	share(9002, 1, 0)
	share(9003, 0, 0, 2) // it crosses 1 and 3, and the other two
	wantDrop(t, s, 1, 2, 9003)
	share(9004, 0, 2, 3) // it crosses 1, 3 and 9003
	share(9003, 1, 2)
	l, e = descent.Drop(s)
	check(t, "Drop of too many", e, api.ErrLimit, len(l) > 0)
}
