package mend_test

import (
	"math"
	"math/rand"
	"slices"
	"testing"

	"pecia/api"
	"pecia/mend"
)

// isForTwo is whether numbers are days for two, by the words of the document.
func isForTwo(x api.Tour, other, on, by []int) bool {
	for i, f := range x.Flaws {
		if on[i] == -1 && by[i] == -1 {
			continue
		}
		if by[i] != 0 && by[i] != 1 {
			return false
		}
		if !has(openDays(forBoth(x, other)[by[i]], f.Days), on[i]) {
			return false
		}
		for k := range i {
			if on[k] == on[i] && by[k] == by[i] {
				return false
			}
		}
	}
	return true
}

// forBoth is the tour of each of two correctors.
func forBoth(x api.Tour, other []int) [2]api.Tour {
	second := x
	second.Closed = other
	return [2]api.Tour{x, second}
}

// mostForTwo is what days for two are worth at most: all choices of who mends each flaw, if anybody does, are tried, with all days of each corrector.
func mostForTwo(x api.Tour, other []int) int {
	tours, most := forBoth(x, other), 0
	for bits := range 1 << len(x.Flaws) {
		n := 0
		for by, own := range tours {
			own.Flaws = nil
			for i, f := range x.Flaws {
				if bits>>i&1 == by {
					own.Flaws = append(own.Flaws, f)
				}
			}
			_, best := bestOf(own)
			n += best
		}
		most = max(most, n)
	}
	return most
}

// wantBoth is that Both returns days for two that are worth so much.
func wantBoth(t *testing.T, x api.Tour, other []int, should int) {
	t.Helper()
	on, by, n, e := mend.Both(x, other)
	wantErr(t, "Both", e, api.OK)
	if len(on) != len(x.Flaws) || len(by) != len(x.Flaws) || !isForTwo(x, other, on, by) || n != worth(x, on) || n != should {
		t.Error("Both", x, other, on, by, n, "want", should)
	}
	wantCheckBoth(t, x, other, on, by, n)
}

func wantCheckBoth(t *testing.T, x api.Tour, other, on, by []int, should int) {
	t.Helper()
	n, e := mend.CheckBoth(x, other, on, by)
	wantErr(t, "CheckBoth", e, api.OK)
	if n != should {
		t.Error("CheckBoth", x, other, on, by, n, "want", should)
	}
}

// TestBoth is of P6.17.
func TestBoth(t *testing.T) {
	x := example()
	wantBoth(t, x, list(1, 2, 3, 4), 15)
	wantBoth(t, x, list(0, 1, 2, 3, 4), 12)
	wantBoth(t, x, list(2), 15)
	wantBoth(t, x, nil, 15)
	wantBoth(t, x, list(0, 1), 15)
	wantBoth(t, tour(1, nil), nil, 0)
	wantBoth(t, tour(1, list(0)), list(0), 0)
	wantBoth(t, tour(1, list(0), flaw(3, 0, 0, 8)), nil, 8)
	wantBoth(t, tour(1, nil, flaw(3, 0, 0, 8), flaw(2, 0, 0, 5), flaw(1, 0, 0, 6)), nil, 14)
	wantBoth(t, tour(20, nil, spread(40, 19)...), nil, 40)
	wantBoth(t, tour(60, upTo(0, 57), spread(40, 59)...), upTo(1, 59), 3)
	wantBoth(t, tour(60, nil, flaw(1, 59, 59, 1000), flaw(2, 59, 59, 999)), nil, 1999)
}

// noDays is what is not days of a tour of five days in increasing order.
func noDays() [][]int {
	return [][]int{list(5), list(-1), list(1, 0), list(3, 3), list(0, 9, 2), list(0, math.MaxInt), list(math.MinInt, 2)}
}

// TestBothErrors is of P6.17.
func TestBothErrors(t *testing.T) {
	for _, other := range noDays() {
		on, by, n, e := mend.Both(example(), other)
		check(t, "Both", e, api.ErrArg, len(on)+len(by) > 0 || n != 0)
		n, e = mend.CheckBoth(example(), other, list(9, 9, 9, 9, 9), list(9, 9, 9, 9, 9))
		check(t, "CheckBoth", e, api.ErrArg, n != 0)
	}
}

// TestCheckBoth is of P6.17.
func TestCheckBoth(t *testing.T) {
	x, other := example(), list(1, 2, 3)
	wantCheckBoth(t, x, other, list(0, 0, 1, 3, 4), list(0, 1, 0, 0, 0), 15)
	wantCheckBoth(t, x, other, list(0, 0, 1, 3, 4), list(1, 0, 0, 0, 1), 15)
	wantCheckBoth(t, x, other, list(-1, -1, -1, -1, -1), list(-1, -1, -1, -1, -1), 0) // it need not be best
	wantCheckBoth(t, x, other, list(-1, 0, 1, -1, 4), list(-1, 1, 0, -1, 0), 8)
	wantCheckBoth(t, x, nil, list(0, 0, 2, 1, 4), list(0, 1, 1, 0, 0), 15)
	for what, c := range map[string]struct {
		on, by []int
		e      api.Errno
	}{
		"too few days":          {list(0, 0, 1, 3), list(0, 1, 0, 0, 0), api.ErrArg},
		"too many days":         {list(0, 0, 1, 3, 4, -1), list(0, 1, 0, 0, 0), api.ErrArg},
		"too few correctors":    {list(0, 0, 1, 3, 4), list(0, 1, 0, 0), api.ErrArg},
		"too many correctors":   {list(0, 0, 1, 3, 4), list(0, 1, 0, 0, 0, -1), api.ErrArg},
		"none":                  {nil, nil, api.ErrArg},
		"too few, and wrong":    {list(9, 9), list(9, 9), api.ErrArg},
		"the first one twice":   {list(0, 0, 1, 3, 4), list(0, 0, 0, 0, 0), api.ErrProof},
		"the second one twice":  {list(0, 0, 1, 3, 4), list(1, 1, 0, 0, 0), api.ErrProof},
		"closed for the first":  {list(0, 0, 2, 3, 4), list(0, 1, 0, 0, 0), api.ErrProof},
		"closed for the second": {list(0, 0, 1, 3, 4), list(0, 1, 1, 0, 0), api.ErrProof},
		"no day of the flaw":    {list(0, 0, 1, 0, 4), list(0, 1, 0, -1, 0), api.ErrProof},
		"another day":           {list(4, 0, 1, 3, -1), list(0, 1, 0, 0, -1), api.ErrProof},
		"no day of the tour":    {list(0, 0, 1, 3, 5), list(0, 1, 0, 0, 0), api.ErrProof},
		"a day ahead of all":    {list(-2, 0, 1, 3, 4), list(0, 1, 0, 0, 0), api.ErrProof},
		"a third corrector":     {list(0, 0, 1, 3, 4), list(0, 2, 0, 0, 0), api.ErrProof},
		"a corrector -2":        {list(0, 0, 1, 3, 4), list(0, -2, 0, 0, 0), api.ErrProof},
		"a great corrector":     {list(0, 0, 1, 3, 4), list(0, math.MaxInt, 0, 0, 0), api.ErrProof},
		"a day of nobody":       {list(0, 0, 1, 3, 4), list(0, 1, 0, 0, -1), api.ErrProof},
		"the first one's -1":    {list(0, -1, 1, 3, 4), list(0, 0, 0, 0, 0), api.ErrProof},
		"the second one's -1":   {list(0, 0, 1, 3, -1), list(0, 1, 0, 0, 1), api.ErrProof},
		"a great day":           {list(math.MaxInt, 0, 1, 3, 4), list(0, 1, 0, 0, 0), api.ErrProof},
		"a least day":           {list(0, 0, 1, 3, math.MinInt), list(0, 1, 0, 0, 1), api.ErrProof},
		"-1 -2":                 {list(0, 0, 1, 3, -1), list(0, 1, 0, 0, -2), api.ErrProof},
	} {
		n, e := mend.CheckBoth(x, other, c.on, c.by)
		check(t, "CheckBoth: "+what, e, c.e, n != 0)
	}
}

// TestBothAgrees is of P6.17 and P6.19, for small tours: all days for two are tried, and any numbers.
func TestBothAgrees(t *testing.T) {
	right := 0
	smallTours(19, 150, func(r *rand.Rand, x api.Tour) {
		other := someOf(r, upTo(0, x.Days-1), 2)
		wantBoth(t, x, other, mostForTwo(x, other))
		for range 30 {
			var on, by []int
			for range x.Flaws {
				on, by = append(on, r.Intn(x.Days+2)-1), append(by, r.Intn(4)-1)
				if r.Intn(2) == 0 {
					on[len(on)-1], by[len(by)-1] = -1, -1
				}
			}
			if isForTwo(x, other, on, by) {
				wantCheckBoth(t, x, other, on, by, worth(x, on))
				right++
				continue
			}
			n, e := mend.CheckBoth(x, other, on, by)
			check(t, "CheckBoth", e, api.ErrProof, n != 0)
		}
	})
	if right < 500 {
		t.Error("too few days for two:", right)
	}
}

// alternate is the tour of one corrector on which each day of two stands twice, first as that of the first one: up to 30 days.
func alternate(x api.Tour, other []int) api.Tour {
	one := api.Tour{Days: 2 * x.Days}
	for by, own := range forBoth(x, other) {
		for _, day := range own.Closed {
			one.Closed = append(one.Closed, 2*day+by)
		}
	}
	slices.Sort(one.Closed)
	for _, f := range x.Flaws {
		one.Flaws = append(one.Flaws, flaw(f.ID, 2*f.Days.Lo, 2*f.Days.Hi+1, f.Merit))
	}
	return one
}

// TestGreatBoth is of P6.17 and P6.19, for tours of all sizes: with days that stand twice one corrector mends as much as two.
func TestGreatBoth(t *testing.T) {
	more := 0
	greatTours(20, 300, func(r *rand.Rand, x api.Tour) {
		other := someOf(r, upTo(0, x.Days-1), 1+r.Intn(3))
		_, _, n, e := mend.Both(x, other)
		wantErr(t, "Both", e, api.OK)
		wantBoth(t, x, other, n)
		if x.Days <= api.MaxTour/2 {
			want(t, "P6.17: Both", n, merit(t, alternate(x, other)))
		}
		tours := forBoth(x, other)
		first, second := merit(t, tours[0]), merit(t, tours[1])
		if n < first || n < second || n > first+second {
			t.Error("P6.19: two correctors:", x, other, n, first, second)
		}
		more += min(1, n-first)
		wantBoth(t, tours[1], x.Closed, n)
		wantBoth(t, x, upTo(0, x.Days-1), first)
	})
	if more < 50 {
		t.Error("too few with whom more is mended:", more)
	}
}
