package mend_test

import (
	"math"
	"math/rand"
	"slices"
	"testing"

	"pecia/api"
	"pecia/mend"
)

func wantGain(t *testing.T, x api.Tour, day, should int) {
	t.Helper()
	n, e := mend.Gain(x, day)
	wantErr(t, "Gain", e, api.OK)
	if n != should {
		t.Error("Gain", x, day, n, "want", should)
	}
}

func wantLost(t *testing.T, x api.Tour, day, should int) {
	t.Helper()
	n, e := mend.Lost(x, day)
	wantErr(t, "Lost", e, api.OK)
	if n != should {
		t.Error("Lost", x, day, n, "want", should)
	}
}

func wantWider(t *testing.T, x api.Tour, id int, days api.Span, should int) {
	t.Helper()
	n, e := mend.Wider(x, id, days)
	wantErr(t, "Wider", e, api.OK)
	if n != should {
		t.Error("Wider", x, id, days, n, "want", should)
	}
}

// TestGain is of P6.7.
func TestGain(t *testing.T) {
	wantGain(t, example(), 2, 3)
	for _, day := range list(0, 1, 3, 4) {
		wantGain(t, example(), day, 0) // it is open already
	}
	wantGain(t, tour(1, list(0)), 0, 0)
	wantGain(t, tour(1, list(0), flaw(1, 0, 0, 1000)), 0, 1000)
	wantGain(t, tour(3, list(0, 2), flaw(1, 0, 1, 7), flaw(2, 1, 2, 4)), 0, 4)
	wantGain(t, tour(60, list(59), flaw(1, 58, 59, 7), flaw(2, 58, 58, 4)), 59, 4)
	for _, day := range list(-1, 5, 60, math.MinInt, math.MaxInt) {
		n, e := mend.Gain(example(), day)
		check(t, "Gain", e, api.ErrArg, n != 0)
		n, e = mend.Lost(example(), day)
		check(t, "Lost", e, api.ErrArg, n != 0)
	}
}

// TestLost is of P6.7.
func TestLost(t *testing.T) {
	wantLost(t, example(), 4, 1)
	wantLost(t, example(), 3, 2)
	wantLost(t, example(), 2, 0) // it is closed already
	wantLost(t, example(), 0, 4)
	wantLost(t, example(), 1, 4)
	wantLost(t, tour(1, nil), 0, 0)
	wantLost(t, tour(1, nil, flaw(1, 0, 0, 1000)), 0, 1000)
	wantLost(t, tour(3, nil, flaw(1, 0, 2, 7)), 1, 0)
	wantLost(t, tour(3, list(2), flaw(1, 0, 2, 7), flaw(2, 1, 2, 4)), 0, 4)
}

// TestWider is of P6.7.
func TestWider(t *testing.T) {
	x := example()
	wantWider(t, x, 2, span(0, 4), 2)
	wantWider(t, x, 2, span(0, 1), 0)
	wantWider(t, x, 2, span(2, 2), 0)
	wantWider(t, x, 1, span(2, 2), -2)
	wantWider(t, x, 5, span(2, 2), -1)
	wantWider(t, x, 1, span(3, 4), 2)
	wantWider(t, tour(2, nil, flaw(9, 0, 0, 1000), flaw(3, 0, 0, 1000)), 3, span(1, 1), 1000)
	wantWider(t, tour(2, list(1), flaw(9, 0, 0, 1000)), 9, span(1, 1), -1000)
	for _, s := range []api.Span{span(1, 0), span(-1, 0), span(0, 5), span(5, 5), span(math.MinInt, math.MaxInt), span(4, math.MinInt)} {
		n, e := mend.Wider(x, 2, s)
		check(t, "Wider", e, api.ErrArg, n != 0)
		n, e = mend.Wider(x, 6, s)
		check(t, "Wider of none", e, api.ErrNone, n != 0)
	}
	for _, id := range list(0, 6, -1, math.MaxInt) {
		n, e := mend.Wider(x, id, span(0, 4))
		check(t, "Wider of none", e, api.ErrNone, n != 0)
	}
}

// TestOtherToursAgree is of P6.7 and P6.15: all days for the flaws of the other tours are tried.
func TestOtherToursAgree(t *testing.T) {
	gains, losses, wider := 0, 0, map[bool]int{}
	smallTours(7, 300, func(r *rand.Rand, x api.Tour) {
		_, most := bestOf(x)
		for day := range x.Days {
			_, more := bestOf(opened(x, day))
			_, fewer := bestOf(shut(x, day))
			wantGain(t, x, day, more-most)
			wantLost(t, x, day, most-fewer)
			gains += min(1, more-most)
			losses += min(1, most-fewer)
		}
		for _, f := range x.Flaws {
			s := someSpan(r, x.Days)
			_, n := bestOf(moved(x, f.ID, s))
			wantWider(t, x, f.ID, s, n-most)
			if n != most {
				wider[n > most]++
			}
		}
	})
	if gains < 100 || losses < 100 || wider[true] < 50 || wider[false] < 50 {
		t.Error("too few of a sort:", gains, losses, wider)
	}
}

// TestGreatOtherTours is of P6.7 and P6.15, for tours of all sizes.
func TestGreatOtherTours(t *testing.T) {
	greatTours(15, 80, func(r *rand.Rand, x api.Tour) {
		most, greatest := merit(t, x), 0
		for _, f := range x.Flaws {
			greatest = max(greatest, f.Merit)
			s := someSpan(r, x.Days)
			wantWider(t, x, f.ID, s, merit(t, moved(x, f.ID, s))-most)
			wide := span(r.Intn(f.Days.Lo+1), f.Days.Hi+r.Intn(x.Days-f.Days.Hi))
			if n, e := mend.Wider(x, f.ID, wide); e != api.OK || n < 0 || n > f.Merit {
				t.Error("P6.15: Wider, with wider days:", x, f, wide, n, e)
			}
		}
		for day := range x.Days {
			more, fewer := merit(t, opened(x, day))-most, most-merit(t, shut(x, day))
			wantGain(t, x, day, more)
			wantLost(t, x, day, fewer)
			if more < 0 || fewer < 0 || more > greatest || fewer > greatest || more > 0 && fewer > 0 {
				t.Error("P6.15: Gain, Lost", x, day, more, fewer)
			}
			if has(x.Closed, day) {
				again, e := mend.Close(opened(x, day), day)
				wantErr(t, "Close", e, api.OK)
				wantTour(t, "P6.15: open and closed again", again, x)
				wantLost(t, opened(x, day), day, more)
			} else {
				wantGain(t, shut(x, day), day, fewer)
			}
		}
	})
}

// wantLater is that Later returns a best mending that is proved, and mends what the given one mends, but one at most, and no others but the further flaw.
func wantLater(t *testing.T, x api.Tour, m api.Mending, f api.Flaw) api.Mending {
	t.Helper()
	got, e := mend.Later(x, m, f)
	wantErr(t, "Later", e, api.OK)
	with := x
	with.Flaws = append(slices.Clone(x.Flaws), f)
	if !isProved(with, got) {
		t.Error("Later", x, m, f, got)
		return got
	}
	wantErr(t, "P6.11: CheckBest of Later", mend.CheckBest(with, got), api.OK)
	was, is := mendedBy(x, m.On), mendedBy(with, got.On)
	if len(minus(was, is)) > 1 || !isPart(minus(is, was), list(f.ID)) {
		t.Error("P6.8: Later", x, m, f, got)
	}
	if got.Merit < m.Merit || got.Merit > m.Merit+f.Merit {
		t.Error("P6.15: a further flaw:", x, m, f, got)
	}
	return got
}

// TestLater is of P6.8.
func TestLater(t *testing.T) {
	x, m := example(), exampleBest()
	want(t, "Later, worth least", wantLater(t, x, m, flaw(6, 0, 4, 1)).Merit, 12)
	want(t, "Later, worth more", wantLater(t, x, m, flaw(6, 0, 4, 9)).Merit, 20)
	want(t, "Later, without open days", wantLater(t, x, m, flaw(6, 2, 2, 1000)), api.Mending{On: list(0, -1, 1, 3, 4, -1), Merit: 12, Full: []api.Span{{}, span(0, 2), {}, {}, {}, span(2, 2)}})
	want(t, "Later, for a worse one", wantLater(t, x, m, flaw(6, 1, 1, 6)).Merit, 14)
	want(t, "Later of nothing", wantLater(t, tour(1, nil), api.Mending{}, flaw(6, 0, 0, 6)), api.Mending{On: list(0), Merit: 6, Full: []api.Span{{}}})
	// The one that is given counts, not just any best one.
	pair := tour(2, nil, flaw(1, 0, 0, 4), flaw(2, 0, 0, 4))
	for i := range 2 {
		given := api.Mending{On: list(-1, -1), Merit: 4, Full: make([]api.Span, 2)}
		given.On[i] = 0
		got := wantLater(t, pair, given, flaw(3, 0, 1, 1))
		want(t, "Later, on a free day", got, api.Mending{On: append(given.On, 1), Merit: 5, Full: make([]api.Span, 3)})
		got = wantLater(t, pair, given, flaw(3, 0, 0, 3))
		want(t, "Later, nothing new", got.On, append(given.On, -1))
	}
	// All flaws on the way give up their days, up to one on a free day.
	row := tour(4, nil, flaw(1, 0, 1, 1), flaw(2, 1, 2, 1), flaw(3, 2, 3, 1))
	want(t, "Later, all move", wantLater(t, row, api.Mending{On: list(0, 1, 2), Merit: 3, Full: make([]api.Span, 3)}, flaw(4, 0, 0, 1)).On, list(1, 2, 3, 0))
}

// TestLaterErrors is of P6.8.
func TestLaterErrors(t *testing.T) {
	full := tour(60, nil, spread(40, 59)...)
	all := bestMending(t, full)
	wrong := exampleBest()
	wrong.Merit++
	none := api.Mending{}
	for what, c := range map[string]struct {
		t api.Tour
		m api.Mending
		f api.Flaw
		e api.Errno
	}{
		"a worse mending":           {example(), wrong, flaw(6, 0, 4, 1), api.ErrState},
		"no mending":                {example(), none, flaw(6, 0, 4, 1), api.ErrState},
		"no mending, a wrong flaw":  {example(), none, flaw(6, 0, 5, 1), api.ErrState},
		"no mending, one too many":  {full, none, flaw(41, 0, 0, 1), api.ErrState},
		"a span that is not full":   {example(), api.Mending{On: list(0, -1, 1, 3, 4), Merit: 12, Full: make([]api.Span, 5)}, flaw(6, 0, 4, 1), api.ErrState},
		"one too many":              {full, all, flaw(41, 0, 0, 1), api.ErrLimit},
		"one too many, wrong":       {full, all, flaw(1, 0, 60, 1), api.ErrLimit},
		"the ID 0":                  {example(), exampleBest(), flaw(0, 0, 4, 1), api.ErrArg},
		"behind the last day":       {example(), exampleBest(), flaw(6, 0, 5, 1), api.ErrArg},
		"no span":                   {example(), exampleBest(), flaw(6, 4, 3, 1), api.ErrArg},
		"worth nothing":             {example(), exampleBest(), flaw(6, 0, 4, 0), api.ErrArg},
		"worth too much":            {example(), exampleBest(), flaw(6, 0, 4, 1001), api.ErrArg},
		"the same ID":               {example(), exampleBest(), flaw(2, 0, 4, 1), api.ErrTwice},
		"the same ID, worth nought": {example(), exampleBest(), flaw(2, 0, 4, 0), api.ErrArg},
	} {
		m, e := mend.Later(c.t, c.m, c.f)
		check(t, "Later: "+what, e, c.e, isSome(m))
	}
}

// TestLaterAgrees is of P6.8, P6.11 and P6.15: from all best mendings of small tours, whatever spans prove them, and those of all sizes that grow flaw by flaw.
func TestLaterAgrees(t *testing.T) {
	lost := 0
	smallTours(8, 600, func(r *rand.Rand, x api.Tour) {
		f := someFlaw(r, 100, x.Days, 4)
		with := x
		with.Flaws = append(slices.Clone(x.Flaws), f)
		_, most := bestOf(with)
		best, _ := bestOf(x)
		for _, on := range best {
			full := allSpans(x, on)
			for _, i := range r.Perm(len(full))[:min(9, len(full))] {
				if m := (api.Mending{On: on, Merit: worth(x, on), Full: full[i]}); isProved(x, m) {
					got := wantLater(t, x, m, f)
					want(t, "Later", got.Merit, most)
					lost += len(minus(mendedBy(x, on), mendedBy(with, got.On)))
				}
			}
		}
	})
	greatTours(16, 100, func(r *rand.Rand, x api.Tour) {
		grown, m := tour(x.Days, x.Closed), api.Mending{}
		for _, f := range x.Flaws {
			m = wantLater(t, grown, m, f)
			grown.Flaws = append(grown.Flaws, f)
			want(t, "Later", m.Merit, merit(t, grown))
		}
	})
	if lost < 100 {
		t.Error("too few that are left out:", lost)
	}
}

func taker(id, day int, flaws ...int) api.Taker { return api.Taker{ID: id, Day: day, Flaws: flaws} }

func wantSpread(t *testing.T, x api.Tour, on []int, l []api.Taker, should ...[]int) {
	t.Helper()
	all, e := mend.Spread(x, api.Mending{On: on}, l)
	wantErr(t, "Spread", e, api.OK)
	if !slices.EqualFunc(all, should, slices.Equal[[]int]) {
		t.Error("Spread", x, on, l, all, "want", should)
	}
}

// TestSpread is of P6.9.
func TestSpread(t *testing.T) {
	x, on := example(), list(0, -1, 1, 3, 4)
	wantSpread(t, x, on, nil)
	wantSpread(t, x, on, []api.Taker{taker(8, 1, 1, 2, 3)}, list(2, 3))
	wantSpread(t, x, on, []api.Taker{taker(8, 1), taker(3, 0, 1, 2, 3, 4, 5), taker(9, 4, 1, 2, 3, 4, 5), taker(1, 2, 1, 3)},
		nil, list(1, 2, 3, 4, 5), list(2, 5), nil)
	wantSpread(t, x, list(-1, -1, -1, -1, -1), []api.Taker{taker(8, 4, 1, 3, 4)}, list(1, 3, 4)) // it need not be a best mending
	wantSpread(t, tour(1, nil), nil, []api.Taker{taker(1, 0)}, nil)
	// Flaws stand in another order than their IDs.
	wantSpread(t, tour(3, nil, flaw(9, 0, 0, 1), flaw(2, 1, 1, 1), flaw(5, 2, 2, 1)), list(0, 1, 2), []api.Taker{taker(1<<40, 1, 2, 5, 9), taker(7, 2, 2, 5, 9)}, list(2, 5), list(5))
	var many []api.Taker
	for id := range 40 {
		many = append(many, taker(id+1, 0, 1))
	}
	all, e := mend.Spread(x, api.Mending{On: on}, many)
	wantErr(t, "Spread to many", e, api.OK)
	want(t, "Spread to many", len(all), 40)
}

// TestSpreadErrors is of P6.9.
func TestSpreadErrors(t *testing.T) {
	right, on := taker(8, 1, 1, 2), list(0, -1, 1, 3, 4)
	for what, c := range map[string]struct {
		on []int
		l  []api.Taker
		e  api.Errno
	}{
		"too few days":               {list(0, -1, 1, 3), []api.Taker{right}, api.ErrArg},
		"too many days":              {list(0, -1, 1, 3, 4, -1), []api.Taker{right}, api.ErrArg},
		"a closed day":               {list(0, -1, 2, 3, 4), []api.Taker{right}, api.ErrArg},
		"a day twice":                {list(0, 0, 1, 3, 4), nil, api.ErrArg},
		"wrong days, too many":       {list(0, 0, 1, 3, 4), make([]api.Taker, 41), api.ErrArg},
		"too many":                   {on, make([]api.Taker, 41), api.ErrLimit},
		"the ID 0":                   {on, []api.Taker{taker(0, 1)}, api.ErrArg},
		"a great ID":                 {on, []api.Taker{taker(1<<40+1, 1)}, api.ErrArg},
		"the day -1":                 {on, []api.Taker{taker(8, -1)}, api.ErrArg},
		"behind the last day":        {on, []api.Taker{taker(8, 5)}, api.ErrArg},
		"flaws in no order":          {on, []api.Taker{taker(8, 1, 2, 1)}, api.ErrArg},
		"a flaw twice":               {on, []api.Taker{taker(8, 1, 1, 1)}, api.ErrArg},
		"no flaw":                    {on, []api.Taker{taker(8, 1, 1, 6)}, api.ErrArg},
		"the ID twice":               {on, []api.Taker{right, taker(9, 1), taker(8, 2)}, api.ErrTwice},
		"wrong, and the ID twice":    {on, []api.Taker{right, taker(8, 5)}, api.ErrArg},
		"the ID twice, then wrong":   {on, []api.Taker{right, right, taker(0, 1)}, api.ErrTwice},
		"wrong, then the ID twice":   {on, []api.Taker{right, taker(3, 1, 7), right}, api.ErrArg},
		"wrong behind the first one": {on, []api.Taker{right, taker(9, 9)}, api.ErrArg},
	} {
		all, e := mend.Spread(example(), api.Mending{On: c.on, Merit: 12}, c.l)
		check(t, "Spread: "+what, e, c.e, len(all) > 0)
	}
}

// TestSpreadAgrees is of P6.9 and P6.16.
func TestSpreadAgrees(t *testing.T) {
	greatTours(17, 200, func(r *rand.Rand, x api.Tour) {
		m := bestMending(t, x)
		flaws := someOf(r, idsOf(x), 2)
		var l []api.Taker
		var should [][]int
		last := slices.Max(append(list(-1), m.On...))
		for day := range min(x.Days, api.MaxTakers) {
			l = append(l, taker(99-day, day, flaws...))
			should = append(should, slices.DeleteFunc(slices.Clone(flaws), func(id int) bool {
				on := m.On[at(x, id)]
				return on != -1 && on < day
			}))
			if got := should[day]; day == 0 && len(got) != len(flaws) || day > last && len(minus(flaws, mendedBy(x, m.On))) != len(got) {
				t.Error("P6.16: on the first day, and behind the last one:", x, m, day, got)
			}
		}
		r.Shuffle(len(l), func(i, k int) {
			l[i], l[k] = l[k], l[i]
			should[i], should[k] = should[k], should[i]
		})
		wantSpread(t, x, m.On, l, should...)
	})
}
