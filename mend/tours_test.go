package mend_test

import (
	"math"
	"math/rand"
	"slices"
	"testing"

	"pecia/api"
	"pecia/mend"
)

// TestCheck is of P6.1.
func TestCheck(t *testing.T) {
	one := flaw(1, 0, 0, 1)
	for what, x := range map[string]struct {
		t api.Tour
		e api.Errno
	}{
		"the example":                 {example(), api.OK},
		"one day":                     {tour(1, nil), api.OK},
		"all days":                    {tour(60, list(0, 59), flaw(1, 0, 59, 1)), api.OK},
		"all days closed":             {tour(3, list(0, 1, 2), one), api.OK},
		"greatest numbers":            {tour(60, nil, flaw(1<<40, 59, 59, 1000)), api.OK},
		"most flaws":                  {tour(1, nil, manyFlaws(40)...), api.OK},
		"IDs in any order":            {tour(1, nil, flaw(3, 0, 0, 1), flaw(1, 0, 0, 1), flaw(2, 0, 0, 1)), api.OK},
		"nothing":                     {api.Tour{}, api.ErrArg},
		"no days":                     {tour(0, nil, one), api.ErrArg},
		"less than no days":           {tour(-1, nil), api.ErrArg},
		"too many days":               {tour(61, nil), api.ErrArg},
		"far too many days":           {tour(math.MaxInt, nil), api.ErrArg},
		"far too few days":            {tour(math.MinInt, nil), api.ErrArg},
		"closed ahead of the first":   {tour(3, list(-1)), api.ErrArg},
		"closed behind the last":      {tour(3, list(0, 3)), api.ErrArg},
		"closed days in no order":     {tour(3, list(1, 0)), api.ErrArg},
		"closed twice":                {tour(3, list(1, 1)), api.ErrArg},
		"closed far behind":           {tour(3, list(0, math.MaxInt)), api.ErrArg},
		"closed far ahead":            {tour(3, list(math.MinInt, 0)), api.ErrArg},
		"a wrong one between":         {tour(3, list(0, 9, 2)), api.ErrArg},
		"too many flaws":              {tour(1, nil, manyFlaws(41)...), api.ErrLimit},
		"too many wrong flaws":        {tour(1, nil, make([]api.Flaw, 41)...), api.ErrLimit},
		"days, then too many":         {tour(0, nil, manyFlaws(41)...), api.ErrArg},
		"closed, then too many":       {tour(1, list(1), manyFlaws(41)...), api.ErrArg},
		"the ID 0":                    {tour(3, nil, flaw(0, 0, 0, 1)), api.ErrArg},
		"an ID less than 0":           {tour(3, nil, flaw(-1, 0, 0, 1)), api.ErrArg},
		"an ID that is too great":     {tour(3, nil, flaw(1<<40+1, 0, 0, 1)), api.ErrArg},
		"no span":                     {tour(3, nil, flaw(1, 2, 1, 1)), api.ErrArg},
		"a span from -1":              {tour(3, nil, flaw(1, -1, 1, 1)), api.ErrArg},
		"a span behind the last day":  {tour(3, nil, flaw(1, 2, 3, 1)), api.ErrArg},
		"a span of another day":       {tour(3, nil, flaw(1, 3, 3, 1)), api.ErrArg},
		"a span without bounds":       {tour(3, nil, flaw(1, math.MinInt, math.MaxInt, 1)), api.ErrArg},
		"worth nothing":               {tour(3, nil, flaw(1, 0, 0, 0)), api.ErrArg},
		"worth less than nothing":     {tour(3, nil, flaw(1, 0, 0, -5)), api.ErrArg},
		"worth too much":              {tour(3, nil, flaw(1, 0, 0, 1001)), api.ErrArg},
		"the same ID":                 {tour(3, nil, one, flaw(2, 0, 0, 1), flaw(1, 1, 1, 2)), api.ErrTwice},
		"a wrong flaw that is twice":  {tour(3, nil, one, flaw(1, 0, 0, 0)), api.ErrArg},
		"twice, then a wrong flaw":    {tour(3, nil, one, one, flaw(2, 0, 3, 1)), api.ErrTwice},
		"a wrong flaw, then twice":    {tour(3, nil, one, flaw(2, 0, 3, 1), one), api.ErrArg},
		"wrong closed, twice the ID":  {tour(3, list(3), one, one), api.ErrArg},
		"a wrong flaw behind others":  {tour(3, nil, one, flaw(2, 0, 0, 1), flaw(3, 0, 0, 1001)), api.ErrArg},
		"a right one of another tour": {tour(4, nil, flaw(1, 4, 4, 1)), api.ErrArg},
	} {
		wantErr(t, what, mend.Check(x.t), x.e)
		wantFirst(t, what, x.t, x.e)
	}
}

// wantFirst is that all functions return the error of a tour first, and nothing with it; or none, if there is none.
func wantFirst(t *testing.T, what string, x api.Tour, e api.Errno) {
	t.Helper()
	if e == api.OK {
		return
	}
	wrongList, wrongDays := list(-9, -9), list(77, 3)
	l, got := mend.Open(x)
	check(t, "Open: "+what, got, e, len(l) > 0)
	n, is, got := mend.Fits(x, wrongDays)
	check(t, "Fits: "+what, got, e, n != 0 || is)
	is, got = mend.Can(x, wrongList)
	check(t, "Can: "+what, got, e, is)
	s, is, got := mend.Jam(x, wrongList)
	check(t, "Jam: "+what, got, e, is || s != api.Span{})
	wantErr(t, "CheckJam: "+what, mend.CheckJam(x, wrongList, span(3, 2)), e)
	m, got := mend.Best(x)
	check(t, "Best: "+what, got, e, isSome(m))
	wantErr(t, "CheckBest: "+what, mend.CheckBest(x, api.Mending{Merit: -1}), e)
	n, got = mend.Merit(x)
	check(t, "Merit: "+what, got, e, n != 0)
	l, l2, got := mend.Surely(x)
	check(t, "Surely: "+what, got, e, len(l)+len(l2) > 0)
	l, got = mend.Days(x, -9)
	check(t, "Days: "+what, got, e, len(l) > 0)
	l, got = mend.Earliest(x)
	check(t, "Earliest: "+what, got, e, len(l) > 0)
	n, got = mend.Gain(x, -9)
	check(t, "Gain: "+what, got, e, n != 0)
	n, got = mend.Lost(x, -9)
	check(t, "Lost: "+what, got, e, n != 0)
	n, got = mend.Wider(x, -9, span(3, 2))
	check(t, "Wider: "+what, got, e, n != 0)
	m, got = mend.Later(x, api.Mending{Merit: -1}, api.Flaw{})
	check(t, "Later: "+what, got, e, isSome(m))
	all, got := mend.Spread(x, api.Mending{On: wrongDays}, make([]api.Taker, 41))
	check(t, "Spread: "+what, got, e, len(all) > 0)
	l, l2, n, got = mend.Both(x, wrongList)
	check(t, "Both: "+what, got, e, len(l)+len(l2) > 0 || n != 0)
	n, got = mend.CheckBoth(x, wrongList, wrongDays, nil)
	check(t, "CheckBoth: "+what, got, e, n != 0)
	other, got := mend.Close(x, -9)
	check(t, "Close: "+what, got, e, isTour(other))
	other, got = mend.Without(x, wrongList)
	check(t, "Without: "+what, got, e, isTour(other))
}

func isSome(m api.Mending) bool { return m.Merit != 0 || len(m.On) > 0 || len(m.Full) > 0 }

func isTour(x api.Tour) bool { return x.Days != 0 || len(x.Closed) > 0 || len(x.Flaws) > 0 }

func wantOpen(t *testing.T, x api.Tour, should ...int) {
	t.Helper()
	l, e := mend.Open(x)
	wantErr(t, "Open", e, api.OK)
	want(t, "Open", l, should)
}

// TestOpen is of P6.1.
func TestOpen(t *testing.T) {
	wantOpen(t, example(), 0, 1, 3, 4)
	wantOpen(t, tour(1, nil), 0)
	wantOpen(t, tour(1, list(0)))
	wantOpen(t, tour(3, list(0, 1, 2), flaw(1, 0, 2, 1)))
	wantOpen(t, tour(60, nil), upTo(0, 59)...)
	wantOpen(t, tour(60, upTo(1, 58)), 0, 59)
	wantOpen(t, tour(4, list(0, 3), flaw(1, 0, 0, 1)), 1, 2)
}

func wantFits(t *testing.T, x api.Tour, on []int, should int) {
	t.Helper()
	id, is, e := mend.Fits(x, on)
	wantErr(t, "Fits", e, api.OK)
	if id != should || is != (should == 0) {
		t.Error("Fits", x, on, id, is, "want", should)
	}
}

// TestFits is of P6.2.
func TestFits(t *testing.T) {
	x := example()
	wantFits(t, x, list(0, -1, 1, 3, 4), 0)
	wantFits(t, x, list(-1, -1, -1, -1, -1), 0)
	wantFits(t, x, list(1, 0, -1, 3, 4), 0)
	wantFits(t, x, list(2, -1, 1, 3, 4), 1)
	wantFits(t, x, list(0, 0, 1, 3, 4), 2)  // a day twice
	wantFits(t, x, list(0, 1, 2, 3, 4), 3)  // a closed day
	wantFits(t, x, list(0, 1, -1, 4, 9), 4) // a day behind those of the flaw
	wantFits(t, x, list(0, -1, 1, 0, 0), 4) // a day ahead of them
	wantFits(t, x, list(0, -1, 1, 3, 5), 5) // no day of the tour
	wantFits(t, x, list(0, -1, 1, 3, 3), 5)
	wantFits(t, x, list(-2, 9, 9, 9, 9), 1)
	wantFits(t, x, list(math.MinInt, 0, 0, 0, 0), 1)
	wantFits(t, x, list(0, math.MaxInt, 1, 3, 4), 2)
	wantFits(t, x, list(0, -1, -1, 0, -1), 4)
	wantFits(t, tour(1, nil), nil, 0)
	wantFits(t, tour(60, nil, flaw(7, 59, 59, 1)), list(59), 0)
	wantFits(t, tour(60, nil, flaw(7, 0, 58, 1), flaw(3, 0, 59, 1)), list(0, 59), 0)
	wantFits(t, tour(60, nil, flaw(7, 0, 58, 1), flaw(3, 0, 59, 1)), list(1, 1), 3)
	for _, on := range [][]int{nil, list(0), list(0, -1, 1, 3), list(0, -1, 1, 3, 4, -1), list(9, 9)} {
		id, is, e := mend.Fits(x, on)
		check(t, "Fits, another number of days", e, api.ErrArg, id != 0 || is)
	}
	id, is, e := mend.Fits(tour(1, nil), list(-1))
	check(t, "Fits, too many of none", e, api.ErrArg, id != 0 || is)
}

// TestFitsAgrees is of P6.2, for any numbers.
func TestFitsAgrees(t *testing.T) {
	fits := 0
	smallTours(2, 2000, func(r *rand.Rand, x api.Tour) {
		var on []int
		for range x.Flaws {
			on = append(on, r.Intn(x.Days+3)-2)
			if r.Intn(2) == 0 {
				on[len(on)-1] = -1
			}
		}
		wantFits(t, x, on, wrong(x, on))
		if wrong(x, on) == 0 && len(on) > 2 {
			fits++
		}
	})
	if fits < 100 {
		t.Error("too few that fit:", fits)
	}
}

func wantClose(t *testing.T, x api.Tour, day int, should ...int) {
	t.Helper()
	got, e := mend.Close(x, day)
	wantErr(t, "Close", e, api.OK)
	wantTour(t, "Close", got, api.Tour{Days: x.Days, Closed: should, Flaws: x.Flaws})
}

// TestClose is of P6.10.
func TestClose(t *testing.T) {
	wantClose(t, example(), 0, 0, 2)
	wantClose(t, example(), 2, 2)
	wantClose(t, example(), 4, 2, 4)
	wantClose(t, tour(1, nil), 0, 0)
	wantClose(t, tour(60, list(3, 9), flaw(4, 0, 1, 1)), 5, 3, 5, 9)
	wantClose(t, tour(60, list(3, 9), flaw(4, 0, 1, 1)), 59, 3, 9, 59)
	wantClose(t, tour(3, list(0, 1, 2)), 1, 0, 1, 2)
	for _, day := range list(-1, 5, 60, math.MinInt, math.MaxInt) {
		got, e := mend.Close(example(), day)
		check(t, "Close", e, api.ErrArg, isTour(got))
	}
}

// TestWithout is of P6.10.
func TestWithout(t *testing.T) {
	x := tour(4, list(3), flaw(5, 0, 1, 7), flaw(9, 1, 1, 2), flaw(2, 2, 3, 1), flaw(4, 0, 3, 6))
	for _, c := range []struct{ ids, left []int }{
		{nil, list(0, 1, 2, 3)}, {list(9), list(0, 2, 3)}, {list(2, 5), list(1, 3)}, {list(4, 9), list(0, 2)}, {list(2, 4, 5, 9), nil},
	} {
		should := tour(4, list(3))
		for _, i := range c.left {
			should.Flaws = append(should.Flaws, x.Flaws[i])
		}
		got, e := mend.Without(x, c.ids)
		wantErr(t, "Without", e, api.OK)
		wantTour(t, "Without", got, should)
	}
	for _, ids := range noLists(x) {
		got, e := mend.Without(x, ids)
		check(t, "Without", e, api.ErrArg, isTour(got))
	}
}

// noLists is what is no list of flaws of a tour with two flaws at least, and not with all IDs up to 9.
func noLists(x api.Tour) [][]int {
	ids := idsOf(x)
	a, b := ids[0], ids[1]
	other := minus(upTo(1, 9), ids)[0]
	inOrder := slices.Sorted(slices.Values(list(a, b, other)))
	return [][]int{list(b, a), list(a, a), list(0), list(-1, a), list(other), inOrder, list(a, 1<<40+1), list(a, math.MaxInt), list(math.MinInt, b)}
}

// TestLists is of P6.3, for what is no list of flaws.
func TestLists(t *testing.T) {
	for _, ids := range noLists(example()) {
		is, e := mend.Can(example(), ids)
		check(t, "Can", e, api.ErrArg, is)
		s, is, e := mend.Jam(example(), ids)
		check(t, "Jam", e, api.ErrArg, is || s != api.Span{})
		wantErr(t, "CheckJam", mend.CheckJam(example(), ids, span(0, 1)), api.ErrArg)
		wantErr(t, "CheckJam", mend.CheckJam(example(), ids, span(1, 0)), api.ErrArg)
	}
}
