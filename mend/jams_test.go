package mend_test

import (
	"math"
	"math/rand"
	"slices"
	"testing"

	"pecia/api"
	"pecia/mend"
)

// wantJam is that Jam finds a span, and that some flaws cannot be mended; or that it finds none, if there is none, and that they can.
func wantJam(t *testing.T, x api.Tour, ids []int, should ...api.Span) {
	t.Helper()
	s, is, e := mend.Jam(x, ids)
	wantErr(t, "Jam", e, api.OK)
	can, e := mend.Can(x, ids)
	wantErr(t, "Can", e, api.OK)
	if is != (len(should) > 0) || can == is {
		t.Error("Jam, Can", x, ids, s, is, can, "want", should)
	}
	if !is && s != (api.Span{}) || is && !slices.Equal([]api.Span{s}, should) {
		t.Error("Jam", x, ids, s, "want", should)
	}
	if is {
		wantErr(t, "P6.12: CheckJam of Jam", mend.CheckJam(x, ids, s), api.OK)
	}
}

// TestJams is of P6.3.
func TestJams(t *testing.T) {
	x := example()
	wantJam(t, x, list(1, 2))
	wantJam(t, x, list(1, 2, 3), span(0, 2))
	wantJam(t, x, list(1, 2, 3, 4, 5), span(0, 2))
	wantJam(t, x, list(1, 3, 4, 5))
	wantJam(t, x, nil)
	wantJam(t, x, list(3, 4, 5))
	wantJam(t, tour(1, nil), nil)
	wantJam(t, tour(1, list(0)), nil)
	wantJam(t, tour(1, list(0), flaw(1, 0, 0, 1)), list(1), span(0, 0))
	wantJam(t, tour(1, list(0), flaw(1, 0, 0, 1)), nil)
	// Of all jams it is the one that begins first, and of these the one that ends first.
	wantJam(t, tour(4, nil, flaw(1, 2, 2, 1), flaw(2, 2, 2, 1)), list(1, 2), span(2, 2))
	wantJam(t, tour(4, nil, flaw(1, 1, 2, 1), flaw(2, 2, 2, 1), flaw(3, 2, 2, 1)), list(1, 2, 3), span(1, 2))
	wantJam(t, tour(5, list(0), flaw(1, 2, 2, 1), flaw(2, 2, 2, 1)), list(1, 2), span(2, 2))
	wantJam(t, tour(5, list(1), flaw(1, 2, 2, 1), flaw(2, 2, 2, 1)), list(1, 2), span(1, 2))
	wantJam(t, tour(5, list(0, 1, 4), flaw(1, 2, 2, 1), flaw(2, 2, 2, 1)), list(1, 2), span(0, 2))
	wantJam(t, tour(60, nil, flaw(8, 59, 59, 1), flaw(3, 59, 59, 1)), list(3, 8), span(59, 59))
	wantJam(t, tour(39, nil, spread(40, 38)...), upTo(1, 40), span(0, 38))
	wantJam(t, tour(40, nil, spread(40, 39)...), upTo(1, 40))
}

// spread is n flaws that can be mended from the first day to a last one.
func spread(n, last int) []api.Flaw {
	l := manyFlaws(n)
	for i := range l {
		l[i].Days.Hi = last
	}
	return l
}

// TestCheckJam is of P6.3.
func TestCheckJam(t *testing.T) {
	x := example()
	for _, c := range []struct {
		ids []int
		s   api.Span
		e   api.Errno
	}{
		{list(1, 2, 3), span(0, 2), api.OK},
		{list(1, 2, 3), span(0, 1), api.ErrProof},
		{list(1, 2, 3), span(0, 3), api.ErrProof},
		{list(1, 2, 3), span(1, 2), api.ErrProof},
		{list(1, 2, 3, 4), span(0, 3), api.OK},
		{list(1, 2, 3, 4, 5), span(0, 4), api.OK},
		{list(1, 2), span(0, 1), api.ErrProof},
		{list(1, 2, 4), span(0, 2), api.ErrProof},
		{nil, span(2, 2), api.ErrProof},
		{list(1, 2, 3), span(2, 0), api.ErrProof},
		{list(1, 2, 3), span(-1, 2), api.ErrProof},
		{list(1, 2, 3, 4, 5), span(0, 5), api.ErrProof},
		{list(1, 2, 3, 4, 5), span(-1, 5), api.ErrProof},
		{list(1, 2, 3, 4, 5), span(math.MinInt, math.MaxInt), api.ErrProof},
		{list(1, 2, 3, 4, 5), span(math.MaxInt, math.MinInt), api.ErrProof},
		{list(1, 2, 3, 4, 5), span(0, math.MaxInt), api.ErrProof},
		{list(1, 2, 3, 4, 5), span(3, 2), api.ErrProof},
	} {
		if e := mend.CheckJam(x, c.ids, c.s); e != c.e {
			t.Error("CheckJam", c.ids, c.s, e)
		}
	}
	wantErr(t, "CheckJam, a closed day", mend.CheckJam(tour(3, list(1), flaw(1, 1, 1, 1)), list(1), span(1, 1)), api.OK)
	wantErr(t, "CheckJam, a closed day between", mend.CheckJam(tour(3, list(1), flaw(1, 1, 1, 1)), list(1), span(0, 2)), api.ErrProof)
}

// TestJamsAgree is of P6.3 and P6.12: all lists of flaws of small tours are tried, with all days and spans.
func TestJamsAgree(t *testing.T) {
	can, cannot := 0, 0
	smallTours(3, 400, func(r *rand.Rand, x api.Tour) {
		all := allDays(x)
		for bits := range 1 << len(x.Flaws) {
			ids := slices.DeleteFunc(idsOf(x), func(id int) bool { return bits>>at(x, id)&1 == 0 })
			var jams []api.Span
			for _, s := range spans(x) {
				should := api.ErrProof
				if isJam(x, ids, s) {
					jams, should = append(jams, s), api.OK
				}
				wantErr(t, "CheckJam", mend.CheckJam(x, ids, s), should)
			}
			wantJam(t, x, ids, jams[:min(1, len(jams))]...)
			is := slices.ContainsFunc(all, func(on []int) bool { return isPart(ids, mendedBy(x, on)) })
			if is == (len(jams) > 0) {
				t.Error("P6.12: flaws can be mended, and there is a jam:", x, ids, jams)
			}
			if is {
				can++
				wantCanLess(t, x, ids)
			} else {
				cannot++
			}
		}
	})
	if can < 1000 || cannot < 1000 {
		t.Error("too few of a sort:", can, cannot)
	}
}

// wantCanLess is that flaws that can be mended together can be without each one of them.
func wantCanLess(t *testing.T, x api.Tour, ids []int) {
	t.Helper()
	for _, id := range ids {
		if is, e := mend.Can(x, minus(ids, list(id))); e != api.OK || !is {
			t.Error("P6.12: flaws cannot be mended without one of them:", x, ids, id)
		}
	}
}

// TestGreatJams is of P6.3 and P6.12, for tours of all sizes: the flaws of a mending can be mended, and each other one is in a jam with some of them if none of these is worth less.
func TestGreatJams(t *testing.T) {
	refused := 0
	greatTours(12, 150, func(r *rand.Rand, x api.Tour) {
		m := bestMending(t, x)
		mended := mendedBy(x, m.On)
		wantJam(t, x, mended)
		wantCanLess(t, x, mended)
		ids := slices.Sorted(slices.Values(append(someOf(r, minus(idsOf(x), mended), 3), mended...)))
		var jams []api.Span
		for _, s := range spans(x) {
			if isJam(x, ids, s) {
				jams = append(jams, s)
			}
		}
		if isPart(ids, mended) == (len(jams) > 0) {
			t.Error("P6.12: a further flaw can be mended too:", x, ids)
		}
		wantJam(t, x, ids, jams[:min(1, len(jams))]...)
		refused += len(jams)
	})
	if refused < 500 {
		t.Error("too few jams:", refused)
	}
}
