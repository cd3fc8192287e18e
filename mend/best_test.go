package mend_test

import (
	"math"
	"math/rand"
	"slices"
	"testing"

	"pecia/api"
	"pecia/mend"
)

// wantBest is that Best and Merit tell of a mending that is worth so much, and is proved.
func wantBest(t *testing.T, x api.Tour, should int) {
	t.Helper()
	m := bestMending(t, x)
	if m.Merit != should || merit(t, x) != should {
		t.Error("Best, Merit", x, m, merit(t, x), "want", should)
	}
	if !isProved(x, m) {
		t.Error("Best", x, m)
	}
	wantErr(t, "P6.11: CheckBest of Best", mend.CheckBest(x, m), api.OK)
}

// TestBest is of P6.4.
func TestBest(t *testing.T) {
	wantBest(t, example(), 12)
	wantBest(t, tour(1, nil), 0)
	wantBest(t, tour(1, list(0)), 0)
	wantBest(t, tour(1, nil, flaw(7, 0, 0, 3)), 3)
	wantBest(t, tour(1, list(0), flaw(7, 0, 0, 3)), 0) // refused by a span without open days
	wantBest(t, tour(5, list(1, 2), flaw(7, 1, 2, 3), flaw(2, 0, 4, 1)), 1)
	wantBest(t, tour(1, nil, flaw(7, 0, 0, 3), flaw(2, 0, 0, 9), flaw(4, 0, 0, 5)), 9)
	// All of them, though the worthier ones are best mended on the last days.
	wantBest(t, tour(3, nil, flaw(1, 0, 2, 9), flaw(2, 0, 1, 8), flaw(3, 0, 0, 1)), 18)
	// Two that are worth less than another one are worth more than it.
	wantBest(t, tour(3, list(2), flaw(1, 0, 1, 6), flaw(2, 0, 0, 5), flaw(3, 1, 1, 4)), 11)
	wantBest(t, tour(60, nil, spread(40, 59)...), 40)
	wantBest(t, tour(60, upTo(7, 59), spread(40, 59)...), 7)
	wantBest(t, tour(60, nil, manyFlaws(40)...), 1)
	wantBest(t, tour(2, nil, flaw(1, 0, 1, 1000), flaw(2, 0, 1, 999), flaw(3, 0, 1, 1000)), 2000)
}

// TestCheckBest is of P6.4.
func TestCheckBest(t *testing.T) {
	for what, c := range map[string]struct {
		change func(*api.Mending)
		e      api.Errno
	}{
		"as it is":               {func(m *api.Mending) {}, api.OK},
		"another full span":      {func(m *api.Mending) { m.Full[1] = span(0, 1) }, api.ErrProof},
		"a span that ends later": {func(m *api.Mending) { m.Full[1] = span(0, 3) }, api.ErrProof}, // it is full, but of a flaw that is worth less
		"all days":               {func(m *api.Mending) { m.Full[1] = span(0, 4) }, api.ErrProof},
		"a span beside the days": {func(m *api.Mending) { m.Full[1] = span(1, 2) }, api.ErrProof},
		"no span":                {func(m *api.Mending) { m.Full[1] = span(2, 0) }, api.ErrProof},
		"zeros":                  {func(m *api.Mending) { m.Full[1] = api.Span{} }, api.ErrProof},
		"ahead of all days":      {func(m *api.Mending) { m.Full[1].Lo = -1 }, api.ErrProof},
		"behind all days":        {func(m *api.Mending) { m.Full[1].Hi = 5 }, api.ErrProof},
		"without bounds":         {func(m *api.Mending) { m.Full[1] = span(math.MinInt, math.MaxInt) }, api.ErrProof},
		"a span of a mended one": {func(m *api.Mending) { m.Full[0] = span(0, 2) }, api.ErrProof},
		"one of the last":        {func(m *api.Mending) { m.Full[4] = span(3, 4) }, api.ErrProof},
		"too few spans":          {func(m *api.Mending) { m.Full = m.Full[:4] }, api.ErrProof},
		"too many spans":         {func(m *api.Mending) { m.Full = append(m.Full, api.Span{}) }, api.ErrProof},
		"no spans":               {func(m *api.Mending) { m.Full = nil }, api.ErrProof},
		"worth more":             {func(m *api.Mending) { m.Merit++ }, api.ErrProof},
		"worth less":             {func(m *api.Mending) { m.Merit-- }, api.ErrProof},
		"too few days":           {func(m *api.Mending) { m.On = m.On[:4] }, api.ErrProof},
		"too many days":          {func(m *api.Mending) { m.On = append(m.On, -1) }, api.ErrProof},
		"no days":                {func(m *api.Mending) { m.On = nil }, api.ErrProof},
		"a closed day":           {func(m *api.Mending) { m.On[2] = 2 }, api.ErrProof},
		"a day twice":            {func(m *api.Mending) { m.On[0] = 1 }, api.ErrProof},
		"another day":            {func(m *api.Mending) { m.On[3] = 4; m.On[4] = 3 }, api.ErrProof},
		"-2":                     {func(m *api.Mending) { m.On[1] = -2 }, api.ErrProof},
		"one is left out":        {func(m *api.Mending) { m.On[4], m.Full[4], m.Merit = -1, span(3, 4), 11 }, api.ErrProof},
		"a worse one": {func(m *api.Mending) {
			m.On, m.Merit, m.Full = list(0, 1, -1, 3, 4), 11, []api.Span{{}, {}, span(0, 2), {}, {}}
		}, api.ErrProof},
	} {
		m := exampleBest()
		c.change(&m)
		if e := mend.CheckBest(example(), m); e != c.e {
			t.Error("CheckBest:", what, m, e)
		}
	}
	wantErr(t, "CheckBest of nothing", mend.CheckBest(tour(1, nil), api.Mending{}), api.OK)
	wantErr(t, "CheckBest of too much", mend.CheckBest(tour(1, nil), api.Mending{Full: []api.Span{{}}}), api.ErrProof)
	zero := tour(2, nil, flaw(1, 0, 0, 4), flaw(2, 0, 0, 4))
	wantErr(t, "CheckBest, zeros as a span", mend.CheckBest(zero, api.Mending{On: list(-1, 0), Merit: 4, Full: []api.Span{{}, {}}}), api.OK)
	wantErr(t, "CheckBest, another full span", mend.CheckBest(zero, api.Mending{On: list(-1, 0), Merit: 4, Full: []api.Span{span(0, 1), {}}}), api.ErrProof)
	one := tour(1, nil, flaw(1, 0, 0, 4), flaw(2, 0, 0, 4))
	for _, s := range []api.Span{span(-1, 0), span(0, 1), span(-1, 1), span(0, 59), span(0, 60), span(0, math.MaxInt), span(math.MinInt, 0)} {
		wantErr(t, "CheckBest, beyond the days", mend.CheckBest(one, api.Mending{On: list(-1, 0), Merit: 4, Full: []api.Span{s, {}}}), api.ErrProof)
	}
	wide := tour(4, list(1, 3), flaw(1, 0, 0, 4), flaw(2, 0, 0, 4))
	wantErr(t, "CheckBest, closed days besides", mend.CheckBest(wide, api.Mending{On: list(-1, 0), Merit: 4, Full: []api.Span{span(0, 1), {}}}), api.OK)
	wantErr(t, "CheckBest, an open one besides", mend.CheckBest(wide, api.Mending{On: list(-1, 0), Merit: 4, Full: []api.Span{span(0, 2), {}}}), api.ErrProof)
}

// TestCheckBestAgrees is of P6.4 and P6.11: all days of small tours are tried, with all spans.
func TestCheckBestAgrees(t *testing.T) {
	proved, not := 0, 0
	r := rand.New(rand.NewSource(4))
	for range 300 {
		x := someTour(r, 1+r.Intn(4), r.Intn(4), 1+r.Intn(3))
		_, most := bestOf(x)
		for _, on := range allDays(x) {
			for _, full := range allSpans(x, on) {
				m, should := api.Mending{On: on, Merit: worth(x, on), Full: full}, api.ErrProof
				if isProved(x, m) {
					should = api.OK
					proved++
				} else {
					not++
				}
				wantErr(t, "CheckBest", mend.CheckBest(x, m), should)
				if should == api.OK && m.Merit < most {
					t.Error("P6.11: a mending is worth more:", x, m, most)
				}
			}
		}
	}
	if proved < 500 || not < 5000 {
		t.Error("too few of a sort:", proved, not)
	}
}

// allSpans is all lists of spans with zeros for the flaws that are mended.
func allSpans(x api.Tour, on []int) [][]api.Span {
	all := [][]api.Span{nil}
	for _, day := range on {
		choice := spans(x)
		if day != -1 {
			choice = []api.Span{{}}
		}
		var longer [][]api.Span
		for _, full := range all {
			for _, s := range choice {
				longer = append(longer, append(slices.Clone(full), s))
			}
		}
		all = longer
	}
	return all
}

func wantSurely(t *testing.T, x api.Tour, surely, possibly []int) {
	t.Helper()
	all, some, e := mend.Surely(x)
	wantErr(t, "Surely", e, api.OK)
	if !slices.Equal(all, surely) || !slices.Equal(some, possibly) {
		t.Error("Surely", x, all, some, "want", surely, possibly)
	}
}

func wantDays(t *testing.T, x api.Tour, id int, should ...int) {
	t.Helper()
	l, e := mend.Days(x, id)
	wantErr(t, "Days", e, api.OK)
	if !slices.Equal(l, should) {
		t.Error("Days", x, id, l, "want", should)
	}
}

func wantEarliest(t *testing.T, x api.Tour, should ...int) {
	t.Helper()
	l, e := mend.Earliest(x)
	wantErr(t, "Earliest", e, api.OK)
	if !slices.Equal(l, should) {
		t.Error("Earliest", x, l, "want", should)
	}
}

// TestSurely is of P6.5.
func TestSurely(t *testing.T) {
	wantSurely(t, example(), list(1, 3, 4, 5), list(1, 3, 4, 5))
	wantSurely(t, tour(1, nil), nil, nil)
	wantSurely(t, tour(1, nil, flaw(8, 0, 0, 1), flaw(3, 0, 0, 1)), nil, list(3, 8))
	wantSurely(t, tour(1, nil, flaw(8, 0, 0, 2), flaw(3, 0, 0, 1)), list(8), list(8))
	wantSurely(t, tour(2, list(1), flaw(8, 0, 1, 1000), flaw(3, 1, 1, 1000), flaw(9, 0, 0, 1000)), nil, list(8, 9))
	wantSurely(t, tour(3, nil, flaw(9, 0, 0, 1), flaw(8, 1, 1, 1), flaw(2, 1, 2, 1), flaw(1, 2, 2, 1)), list(9), list(1, 2, 8, 9))
	wantSurely(t, tour(2, list(0, 1), flaw(8, 0, 1, 1)), nil, nil)
}

// TestDays is of P6.5.
func TestDays(t *testing.T) {
	wantDays(t, example(), 1, 0)
	wantDays(t, example(), 2)
	wantDays(t, example(), 3, 1)
	wantDays(t, example(), 4, 3)
	wantDays(t, example(), 5, 4)
	wantDays(t, tour(4, list(1), flaw(7, 0, 3, 2)), 7, 0, 2, 3)
	wantDays(t, tour(4, list(1), flaw(7, 1, 1, 2)), 7)
	wantDays(t, tour(1, nil, flaw(7, 0, 0, 2), flaw(5, 0, 0, 2)), 7, 0)
	wantDays(t, tour(1, nil, flaw(7, 0, 0, 2), flaw(5, 0, 0, 2)), 5, 0)
	wantDays(t, tour(60, nil, flaw(7, 0, 59, 1000)), 7, upTo(0, 59)...)
	wantDays(t, tour(4, nil, flaw(7, 0, 3, 9), flaw(5, 1, 2, 1), flaw(6, 1, 2, 1)), 7, 0, 3)
	for _, id := range list(0, 6, -1, math.MaxInt, math.MinInt) {
		l, e := mend.Days(example(), id)
		check(t, "Days", e, api.ErrNone, len(l) > 0)
	}
	l, e := mend.Days(tour(1, nil), 1)
	check(t, "Days of none", e, api.ErrNone, len(l) > 0)
}

// TestEarliest is of P6.6.
func TestEarliest(t *testing.T) {
	wantEarliest(t, example(), 0, -1, 1, 3, 4)
	wantEarliest(t, tour(1, nil))
	wantEarliest(t, tour(1, list(0), flaw(1, 0, 0, 1)), -1)
	wantEarliest(t, tour(1, nil, flaw(9, 0, 0, 4), flaw(3, 0, 0, 4)), 0, -1) // in their order, not that of the IDs
	wantEarliest(t, tour(1, nil, flaw(9, 0, 0, 4), flaw(3, 0, 0, 5)), -1, 0) // it is a best mending
	wantEarliest(t, tour(3, nil, flaw(1, 0, 2, 1), flaw(2, 0, 0, 1)), 1, 0)  // both are mended
	wantEarliest(t, tour(3, nil, flaw(1, 0, 2, 1), flaw(2, 0, 2, 1)), 0, 1)  // the first one first
	wantEarliest(t, tour(3, list(0), flaw(1, 0, 2, 1), flaw(2, 0, 2, 9)), 1, 2)
	wantEarliest(t, tour(2, nil, flaw(1, 1, 1, 1), flaw(2, 0, 1, 1), flaw(3, 0, 0, 1)), 1, 0, -1)
}

// TestBestAgrees is of P6.4 to P6.6 and P6.13, P6.14: all days for the flaws of small tours are tried.
func TestBestAgrees(t *testing.T) {
	open, several := 0, 0
	smallTours(5, 1500, func(r *rand.Rand, x api.Tour) {
		best, most := bestOf(x)
		wantBest(t, x, most)
		surely, possibly := idsOf(x), []int(nil)
		for _, on := range best {
			mended := mendedBy(x, on)
			surely = minus(surely, minus(surely, mended))
			possibly = append(possibly, mended...)
		}
		slices.Sort(possibly)
		possibly = slices.Compact(possibly)
		wantSurely(t, x, surely, possibly)
		for i, f := range x.Flaws {
			var days []int
			for _, on := range best {
				if on[i] != -1 {
					days = append(days, on[i])
				}
			}
			slices.Sort(days)
			wantDays(t, x, f.ID, slices.Compact(days)...)
		}
		wantEarliest(t, x, best[0]...)
		open += len(possibly) - len(surely)
		several += len(best) - 1
	})
	if open < 200 || several < 1000 {
		t.Error("too few choices:", open, several)
	}
}

// TestGreatBest is of P6.4, P6.11 and P6.18, for tours of all sizes: a best mending is proved, and mends as many flaws as can be mended at all.
func TestGreatBest(t *testing.T) {
	refused := 0
	greatTours(11, 300, func(r *rand.Rand, x api.Tour) {
		m := bestMending(t, x)
		wantBest(t, x, m.Merit)
		even := x
		even.Flaws = slices.Clone(x.Flaws)
		for i := range even.Flaws {
			even.Flaws[i].Merit = 1
		}
		mended := mendedBy(x, m.On)
		want(t, "P6.18: how many are mended", len(mended), merit(t, even))
		refused += len(x.Flaws) - len(mended)
		wantRefused(t, r, x, m)
	})
	if refused < 1000 {
		t.Error("too few that are refused:", refused)
	}
}

// wantRefused is that CheckBest accepts a best mending no more with another day, span, or worth, unless it is proved by the words of the document.
func wantRefused(t *testing.T, r *rand.Rand, x api.Tour, m api.Mending) {
	t.Helper()
	for range 20 {
		other := cloneMending(m)
		if len(x.Flaws) > 0 {
			i := r.Intn(len(x.Flaws))
			switch r.Intn(4) {
			case 0:
				other.On[i] = r.Intn(x.Days+1) - 1
				other.Merit = worth(x, other.On)
			case 1:
				other.Full[i] = someSpan(r, x.Days)
			case 2:
				other.On[i], other.Full[i] = -1, x.Flaws[i].Days
				other.Merit = worth(x, other.On)
			default:
				other.Merit += r.Intn(3) - 1
			}
		}
		should := api.ErrProof
		if isProved(x, other) {
			should = api.OK
		}
		wantErr(t, "CheckBest", mend.CheckBest(x, other), should)
	}
}

// TestGreatSure is of P6.5, P6.13 and P6.14, for tours of all sizes.
func TestGreatSure(t *testing.T) {
	open := 0
	greatTours(13, 40, func(r *rand.Rand, x api.Tour) {
		m := bestMending(t, x)
		surely, possibly, e := mend.Surely(x)
		wantErr(t, "Surely", e, api.OK)
		mended := mendedBy(x, m.On)
		if !isPart(surely, mended) || !isPart(mended, possibly) {
			t.Error("P6.13: Surely and a best mending", x, surely, possibly, m)
		}
		open += len(possibly) - len(surely)
		for i, f := range x.Flaws {
			if lower := merit(t, less(x, f.ID)); (lower < m.Merit) != has(surely, f.ID) {
				t.Error("P6.13: without a flaw:", x, f, lower, surely)
			}
			days, e := mend.Days(x, f.ID)
			wantErr(t, "Days", e, api.OK)
			if (len(days) > 0) != has(possibly, f.ID) || !isPart(days, openDays(x, f.Days)) {
				t.Error("P6.13: Days", x, f, days, possibly)
			}
			if m.On[i] != -1 && !has(days, m.On[i]) {
				t.Error("P6.5: a best mending mends a flaw on a day that is none of Days:", x, f, days, m)
			}
			wantOn(t, x, f, days, m.Merit)
		}
	})
	if open < 50 {
		t.Error("too few choices:", open)
	}
}

// wantOn is that a flaw has just those days with which the others, and it on this day, are worth as much as a best mending.
func wantOn(t *testing.T, x api.Tour, f api.Flaw, days []int, most int) {
	t.Helper()
	for _, day := range openDays(x, f.Days) {
		is := merit(t, shut(less(x, f.ID), day))+f.Merit == most
		if is != has(days, day) {
			t.Error("P6.5: Days", x, f, days, day)
		}
		if has(days, day) && merit(t, moved(x, f.ID, span(day, day))) != most {
			t.Error("P6.14: with just one of Days:", x, f, day)
		}
	}
}

// TestGreatEarliest is of P6.6 and P6.14, for tours of all sizes: each flaw in order has the first day with which the rest is worth as much as it can.
func TestGreatEarliest(t *testing.T) {
	refused := 0
	greatTours(14, 30, func(r *rand.Rand, x api.Tour) {
		on, e := mend.Earliest(x)
		wantErr(t, "Earliest", e, api.OK)
		want(t, "P6.14: what Earliest is worth", worth(x, on), merit(t, x))
		rest, most := x, merit(t, x)
		for i, f := range x.Flaws {
			rest = less(rest, f.ID)
			first := -1
			for _, day := range openDays(rest, f.Days) {
				if merit(t, shut(rest, day))+f.Merit == most {
					first = day
					break
				}
			}
			if on[i] != first {
				t.Error("P6.6: Earliest", x, on, f, first)
				return
			}
			if first == -1 {
				refused++
				continue
			}
			rest, most = shut(rest, first), most-f.Merit
		}
		wantErr(t, "P6.14: Fits of Earliest", fitsErr(x, on), api.OK)
		if len(x.Flaws) > 0 {
			days, e := mend.Days(x, x.Flaws[0].ID)
			wantErr(t, "Days", e, api.OK)
			if first := append(days, -1)[0]; first != on[0] {
				t.Error("P6.14: the first day of the first flaw:", x, on, days)
			}
		}
	})
	if refused < 50 {
		t.Error("too few that are refused:", refused)
	}
}

// fitsErr is OK if numbers are days for the flaws.
func fitsErr(x api.Tour, on []int) api.Errno {
	_, is, e := mend.Fits(x, on)
	if e == api.OK && !is {
		return api.ErrProof
	}
	return e
}
