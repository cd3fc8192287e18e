package descent_test

import (
	"math"
	"math/rand"
	"slices"
	"testing"

	"pecia/api"
	"pecia/descent"
)

func of(parents ...int) api.Descent { return api.Descent{Parents: parents} }

func wantFrom(t *testing.T, s api.Stock, d api.Descent, id int, should ...int) {
	t.Helper()
	l, e := descent.From(s, d, id)
	wantErr(t, "From", e, api.OK)
	if !slices.Equal(l, should) {
		t.Error("From", s, d, id, l, "want", should)
	}
}

func wantBelow(t *testing.T, s api.Stock, d api.Descent, id int, should ...int) {
	t.Helper()
	l, e := descent.Below(s, d, id)
	wantErr(t, "Below", e, api.OK)
	if !slices.Equal(l, should) {
		t.Error("Below", s, d, id, l, "want", should)
	}
}

func wantMeet(t *testing.T, s api.Stock, d api.Descent, a, b, should int) {
	t.Helper()
	n, e := descent.Meet(s, d, a, b)
	wantErr(t, "Meet", e, api.OK)
	if n != should {
		t.Error("Meet", s, d, a, b, n, "want", should)
	}
}

// TestMeetExamples is of P5.18, by the examples of the chapter.
func TestMeetExamples(t *testing.T) {
	d := of(0, 1, 2, 1, 3)
	wantMeet(t, example(), d, 5, 4, 1)
	wantMeet(t, example(), d, 5, 2, 2)
}

// TestLines is of P5.9 and P5.18.
func TestLines(t *testing.T) {
	s, d := example(), of(0, 1, 2, 1, 3)
	wantFrom(t, s, d, 1)
	wantFrom(t, s, d, 2, 1)
	wantFrom(t, s, d, 3, 2, 1) // its parent, then the parent of that
	wantFrom(t, s, d, 4, 1)
	wantFrom(t, s, d, 5, 3, 2, 1)
	wantBelow(t, s, d, 0, 1, 2, 3, 4, 5)
	wantBelow(t, s, d, 1, 2, 3, 4, 5)
	wantBelow(t, s, d, 2, 3, 5)
	wantBelow(t, s, d, 3, 5)
	wantBelow(t, s, d, 4)
	wantBelow(t, s, d, 5)
	for _, id := range idsOf(s) {
		wantMeet(t, s, d, id, id, id)
	}
	wantMeet(t, s, d, 1, 5, 1)
	wantMeet(t, s, d, 2, 4, 1)
	wantMeet(t, s, d, 4, 3, 1)
	wantMeet(t, s, d, 3, 5, 3)
	// It need not be a best one, and Arise does not matter.
	d = api.Descent{Parents: list(0, 0, 2, 0, 1), Arise: -7}
	wantFrom(t, s, d, 3, 2)
	wantFrom(t, s, d, 4)
	wantFrom(t, s, d, 5, 1)
	wantBelow(t, s, d, 0, 1, 2, 3, 4, 5)
	wantBelow(t, s, d, 1, 5)
	wantBelow(t, s, d, 2, 3)
	wantMeet(t, s, d, 5, 3, 0)
	wantMeet(t, s, d, 3, 2, 2)
	wantMeet(t, s, d, 1, 4, 0)
	// IDs tell nothing of who is older: From is from the parent up.
	s = stock(made(5, 3, 3), made(9, 0, 0), made(2, 6, 6), made(7, 9, 9), made(1, 9, 9))
	d = of(9, 0, 5, 2, 5)
	wantFrom(t, s, d, 7, 2, 5, 9)
	wantFrom(t, s, d, 1, 5, 9)
	wantFrom(t, s, d, 9)
	wantBelow(t, s, d, 9, 1, 2, 5, 7)
	wantBelow(t, s, d, 5, 1, 2, 7)
	wantBelow(t, s, d, 2, 7)
	wantMeet(t, s, d, 7, 1, 5)
	wantMeet(t, s, d, 2, 1, 5)
	wantMeet(t, s, d, 7, 9, 9)
	wantBelow(t, api.Stock{}, of(), 0)
	row, parents := rows(api.MaxCopies), upTo(0, api.MaxCopies-1)
	down := upTo(1, api.MaxCopies-1)
	slices.Reverse(down)
	wantFrom(t, row, of(parents...), api.MaxCopies, down...)
	wantBelow(t, row, of(parents...), 0, upTo(1, api.MaxCopies)...)
	wantMeet(t, row, of(parents...), 20, 13, 13)
}

// TestNoDescent is of P5.9 and P5.18.
func TestNoDescent(t *testing.T) {
	s := example()
	for what, parents := range map[string][]int{
		"nothing":          nil,
		"too few":          list(0, 1, 2, 1),
		"too many":         list(0, 1, 2, 1, 3, 0),
		"itself":           list(0, 2, 2, 1, 3),
		"too late":         list(0, 1, 2, 3, 3),
		"in a ring":        list(2, 1, 2, 1, 3),
		"another slip":     list(0, 1, 2, 1, 4),
		"no copy":          list(0, 1, 2, 1, 6),
		"a slip":           list(0, 1, 2, 1, 10),
		"-1":               list(-1, 1, 2, 1, 3),
		"greatest":         list(0, 1, 2, 1, math.MaxInt),
		"least":            list(math.MinInt, 1, 2, 1, 3),
		"a wrong one more": list(0, 1, 0, 2, 3),
	} {
		for _, id := range idsOf(s) {
			l, e := descent.From(s, of(parents...), id)
			check(t, "From: "+what, e, api.ErrArg, len(l) > 0)
			l, e = descent.Below(s, of(parents...), id)
			check(t, "Below: "+what, e, api.ErrArg, len(l) > 0)
			n, e := descent.Meet(s, of(parents...), id, 6-id)
			check(t, "Meet: "+what, e, api.ErrArg, n != 0)
		}
		l, e := descent.Below(s, of(parents...), 0)
		check(t, "Below the first text: "+what, e, api.ErrArg, len(l) > 0)
	}
	l, e := descent.Below(api.Stock{}, of(0), 0)
	check(t, "Below: too many of none", e, api.ErrArg, len(l) > 0)
	other := stock(s.Copies[4], s.Copies[0], s.Copies[1], s.Copies[2], s.Copies[3]) // parents stand in the order of the stock
	l, e = descent.From(other, of(0, 1, 2, 1, 3), 5)
	check(t, "From, another order", e, api.ErrArg, len(l) > 0)
	wantFrom(t, other, of(3, 0, 1, 2, 1), 5, 3, 2, 1)
	atHand := stock(made(1, 0, 0), from(made(2, 1, 1), 0))
	l, e = descent.From(atHand, of(0, 1), 2)
	check(t, "From what was not at hand", e, api.ErrArg, len(l) > 0)
	l, e = descent.From(stock(made(1, 0, 0), from(made(2, 1, 1), 1)), of(0, 0), 2)
	check(t, "From the first text that was not at hand", e, api.ErrArg, len(l) > 0)
}

// parentOf is the parent of a copy by a descent.
func parentOf(s api.Stock, parents []int, id int) int {
	return parents[slices.IndexFunc(s.Copies, func(c api.Witness) bool { return c.ID == id })]
}

// above is whether a copy descends from another one.
func above(s api.Stock, parents []int, id, child int) bool {
	parent := parentOf(s, parents, child)
	return parent != 0 && (parent == id || above(s, parents, id, parent))
}

// TestLinesAgree is of P5.9, P5.18 and P5.20, for all descents of small stocks.
func TestLinesAgree(t *testing.T) {
	r := rand.New(rand.NewSource(20))
	for range 200 {
		s := someStock(r, 1+r.Intn(5), 2)
		for _, parents := range descents(s) {
			d := of(parents...)
			for _, id := range idsOf(s) {
				var should []int
				for at := parentOf(s, parents, id); at != 0; at = parentOf(s, parents, at) {
					should = append(should, at)
				}
				wantFrom(t, s, d, id, should...)
				wantBelow(t, s, d, id, slices.DeleteFunc(idsOf(s), func(other int) bool { return !above(s, parents, id, other) })...)
				for _, other := range idsOf(s) {
					wantMeeting(t, s, parents, id, other)
				}
			}
			wantBelow(t, s, d, 0, idsOf(s)...)
		}
	}
}

// wantMeeting is that two copies meet in the last one from which both descend.
func wantMeeting(t *testing.T, s api.Stock, parents []int, a, b int) {
	t.Helper()
	isOver := func(id, child int) bool { return id == child || above(s, parents, id, child) }
	meet := 0
	for _, id := range idsOf(s) {
		if isOver(id, a) && isOver(id, b) && (meet == 0 || above(s, parents, meet, id)) {
			meet = id
		}
	}
	wantMeet(t, s, of(parents...), a, b, meet)
	for _, id := range idsOf(s) {
		if isOver(id, a) && isOver(id, b) && !isOver(id, meet) {
			t.Error("P5.20: who both descend from is not above where they meet:", s, parents, a, b, meet, id)
		}
	}
}
