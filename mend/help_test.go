package mend_test

import (
	"math/rand"
	"reflect"
	"slices"
	"testing"

	"pecia/api"
	"pecia/mend"
)

func span(lo, hi int) api.Span { return api.Span{Lo: lo, Hi: hi} }

// flaw is a flaw with an ID that can be mended from a day to another one, and what this is worth.
func flaw(id, lo, hi, merit int) api.Flaw { return api.Flaw{ID: id, Days: span(lo, hi), Merit: merit} }

func tour(days int, closed []int, flaws ...api.Flaw) api.Tour {
	return api.Tour{Days: days, Closed: closed, Flaws: flaws}
}

// example is the tour of the chapter's examples.
func example() api.Tour {
	return tour(5, list(2), flaw(1, 0, 1, 5), flaw(2, 0, 1, 3), flaw(3, 1, 2, 4), flaw(4, 1, 3, 2), flaw(5, 3, 4, 1))
}

// exampleBest is the best mending of the chapter's examples.
func exampleBest() api.Mending {
	return api.Mending{On: list(0, -1, 1, 3, 4), Merit: 12, Full: []api.Span{{}, span(0, 2), {}, {}, {}}}
}

func list(n ...int) []int { return n }

// upTo is the numbers from a first one to a last one.
func upTo(first, last int) []int {
	var l []int
	for n := first; n <= last; n++ {
		l = append(l, n)
	}
	return l
}

// manyFlaws is n flaws with the IDs from 1 on, that can be mended on the first day.
func manyFlaws(n int) []api.Flaw {
	var l []api.Flaw
	for id := range n {
		l = append(l, flaw(id+1, 0, 0, 1))
	}
	return l
}

func has(l []int, n int) bool { return slices.Contains(l, n) }

// isPart is whether all numbers of a list are among others.
func isPart(part, whole []int) bool {
	return !slices.ContainsFunc(part, func(n int) bool { return !has(whole, n) })
}

// minus is the numbers of a list that are not among others.
func minus(l, out []int) []int {
	return slices.DeleteFunc(slices.Clone(l), func(n int) bool { return has(out, n) })
}

// idsOf is the IDs of the flaws of a tour, in increasing order.
func idsOf(t api.Tour) []int {
	var l []int
	for _, f := range t.Flaws {
		l = append(l, f.ID)
	}
	slices.Sort(l)
	return l
}

// at is the index of a flaw of a tour.
func at(t api.Tour, id int) int {
	return slices.IndexFunc(t.Flaws, func(f api.Flaw) bool { return f.ID == id })
}

// less is a tour without some flaws.
func less(t api.Tour, ids ...int) api.Tour {
	t.Flaws = slices.DeleteFunc(slices.Clone(t.Flaws), func(f api.Flaw) bool { return has(ids, f.ID) })
	return t
}

// shut is a tour in which a day is closed, and opened one in which it is not.
func shut(t api.Tour, day int) api.Tour {
	t.Closed = slices.Compact(slices.Sorted(slices.Values(append(list(day), t.Closed...))))
	return t
}

func opened(t api.Tour, day int) api.Tour {
	t.Closed = minus(t.Closed, list(day))
	return t
}

// moved is a tour in which a flaw has other days.
func moved(t api.Tour, id int, days api.Span) api.Tour {
	t.Flaws = slices.Clone(t.Flaws)
	t.Flaws[at(t, id)].Days = days
	return t
}

// openDays is the open days of a span, by the words of the document.
func openDays(t api.Tour, s api.Span) []int { return minus(upTo(s.Lo, s.Hi), t.Closed) }

// within is whether a span of days lies within another one.
func within(inner, outer api.Span) bool { return outer.Lo <= inner.Lo && inner.Hi <= outer.Hi }

// spans is all spans of days of a tour: by the first day, then the last one.
func spans(t api.Tour) []api.Span {
	var l []api.Span
	for lo := range t.Days {
		for hi := lo; hi < t.Days; hi++ {
			l = append(l, span(lo, hi))
		}
	}
	return l
}

// isJam is whether a span is a jam of some flaws.
func isJam(t api.Tour, ids []int, s api.Span) bool {
	n := 0
	for _, id := range ids {
		if within(t.Flaws[at(t, id)].Days, s) {
			n++
		}
	}
	return s.Lo <= s.Hi && s.Lo >= 0 && s.Hi < t.Days && n > len(openDays(t, s))
}

// wrong is the ID of the first flaw whose number is wrong; 0 if numbers are days for the flaws.
func wrong(t api.Tour, on []int) int {
	for i, f := range t.Flaws {
		if on[i] != -1 && (!has(openDays(t, f.Days), on[i]) || has(on[:i], on[i])) {
			return f.ID
		}
	}
	return 0
}

// allDays is all days for the flaws: an earlier day comes ahead of a later one, and each day ahead of -1.
func allDays(t api.Tour) [][]int {
	all := [][]int{nil}
	for _, f := range t.Flaws {
		var longer [][]int
		for _, on := range all {
			for _, day := range append(openDays(t, f.Days), -1) {
				if day == -1 || !has(on, day) {
					longer = append(longer, append(slices.Clone(on), day))
				}
			}
		}
		all = longer
	}
	return all
}

// worth is what days for the flaws are worth.
func worth(t api.Tour, on []int) int {
	n := 0
	for i, f := range t.Flaws {
		if on[i] != -1 {
			n += f.Merit
		}
	}
	return n
}

// bestOf is all best mendings of a tour, the first days first, and what they are worth.
func bestOf(t api.Tour) ([][]int, int) {
	most := -1
	var best [][]int
	for _, on := range allDays(t) {
		if n := worth(t, on); n > most {
			most, best = n, nil
		}
		if worth(t, on) == most {
			best = append(best, on)
		}
	}
	return best, most
}

// mendedBy is the IDs of the flaws that are mended, in increasing order.
func mendedBy(t api.Tour, on []int) []int {
	return slices.DeleteFunc(idsOf(t), func(id int) bool { return on[at(t, id)] == -1 })
}

// isFull is whether a span is full, by days for the flaws.
func isFull(t api.Tour, on []int, s api.Span) bool {
	if s.Lo > s.Hi || s.Lo < 0 || s.Hi >= t.Days {
		return false
	}
	return len(mendedWithin(t, on, s)) == len(openDays(t, s))
}

// mendedWithin is the flaws that are mended whose days lie within a span.
func mendedWithin(t api.Tour, on []int, s api.Span) []api.Flaw {
	var l []api.Flaw
	for i, f := range t.Flaws {
		if on[i] != -1 && within(f.Days, s) {
			l = append(l, f)
		}
	}
	return l
}

// isProved is whether a mending is one, and its spans prove that it is a best one, by the words of the document.
func isProved(t api.Tour, m api.Mending) bool {
	if len(m.On) != len(t.Flaws) || len(m.Full) != len(t.Flaws) || wrong(t, m.On) != 0 || m.Merit != worth(t, m.On) {
		return false
	}
	for i, f := range t.Flaws {
		s := m.Full[i]
		if m.On[i] != -1 {
			if s != (api.Span{}) {
				return false
			}
			continue
		}
		worse := func(other api.Flaw) bool { return other.Merit < f.Merit }
		if !within(f.Days, s) || !isFull(t, m.On, s) || slices.ContainsFunc(mendedWithin(t, m.On, s), worse) {
			return false
		}
	}
	return true
}

// bestMending is what Best returns.
func bestMending(t *testing.T, x api.Tour) api.Mending {
	t.Helper()
	m, e := mend.Best(x)
	wantErr(t, "Best", e, api.OK)
	return m
}

// merit is what Merit returns.
func merit(t *testing.T, x api.Tour) int {
	t.Helper()
	n, e := mend.Merit(x)
	wantErr(t, "Merit", e, api.OK)
	return n
}

func cloneMending(m api.Mending) api.Mending {
	m.On, m.Full = slices.Clone(m.On), slices.Clone(m.Full)
	return m
}

func wantErr(t *testing.T, what string, got, want api.Errno) {
	t.Helper()
	if got != want {
		t.Errorf("%s: error %d, want %d", what, got, want)
	}
}

// check is that there is an error, and with it nothing else.
func check(t *testing.T, what string, got, want api.Errno, more bool) {
	t.Helper()
	wantErr(t, what, got, want)
	if more {
		t.Error(what, "returns something with an error")
	}
}

// want compares results with what they should be; an empty slice is the same whether it is nil or not.
func want(t *testing.T, what string, got, should any) {
	t.Helper()
	a, b := reflect.ValueOf(got), reflect.ValueOf(should)
	if a.Kind() == reflect.Slice && a.Len() == 0 && b.Len() == 0 {
		return
	}
	if !reflect.DeepEqual(got, should) {
		t.Errorf("%s: %v, want %v", what, got, should)
	}
}

func wantTour(t *testing.T, what string, got, should api.Tour) {
	t.Helper()
	if got.Days != should.Days || !slices.Equal(got.Closed, should.Closed) || !slices.Equal(got.Flaws, should.Flaws) {
		t.Errorf("%s: %v, want %v", what, got, should)
	}
}

// someOf is some of a list of numbers, each with a chance of one in n, in increasing order.
func someOf(r *rand.Rand, l []int, n int) []int {
	some := slices.DeleteFunc(slices.Clone(l), func(int) bool { return r.Intn(n) > 0 })
	slices.Sort(some)
	return some
}

// someSpan is any span of days of a tour.
func someSpan(r *rand.Rand, days int) api.Span {
	lo := r.Intn(days)
	return span(lo, lo+r.Intn(days-lo))
}

// someFlaw is any flaw with an ID of a tour of some days, worth at most so much.
func someFlaw(r *rand.Rand, id, days, most int) api.Flaw {
	return api.Flaw{ID: id, Days: someSpan(r, days), Merit: 1 + r.Intn(most)}
}

// someTour is any tour of some days with n flaws, with IDs up to 99 in any order, each of them worth at most so much.
func someTour(r *rand.Rand, days, n, most int) api.Tour {
	t := api.Tour{Days: days, Closed: someOf(r, upTo(0, days-1), 4)}
	for _, id := range r.Perm(99)[:n] {
		t.Flaws = append(t.Flaws, someFlaw(r, id+1, days, most))
	}
	return t
}

// smallTours goes through n tours of at most five flaws and five days. (Many flaws are worth the same.)
func smallTours(seed int64, n int, visit func(r *rand.Rand, t api.Tour)) {
	r := rand.New(rand.NewSource(seed))
	for range n {
		visit(r, someTour(r, 1+r.Intn(5), r.Intn(6), 1+r.Intn(4)))
	}
}

// greatTours goes through n tours of all sizes, of which most have more flaws than days.
func greatTours(seed int64, n int, visit func(r *rand.Rand, t api.Tour)) {
	r := rand.New(rand.NewSource(seed))
	for i := range n {
		days, flaws, most := 1+r.Intn(api.MaxTour), r.Intn(api.MaxFlaws+1), []int{1, 4, api.MaxMerit}[i%3]
		if r.Intn(3) > 0 {
			days = 1 + r.Intn(20)
		}
		t := someTour(r, days, flaws, most)
		for k := range t.Flaws {
			if s := &t.Flaws[k].Days; i%2 == 0 {
				s.Hi = min(s.Hi, s.Lo+5)
			}
		}
		visit(r, t)
	}
}
