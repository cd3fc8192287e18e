package mend

import (
	"iter"
	"slices"

	"pecia/api"
)

// best returns what a best mending is worth, where nothing is mended yet.
func (p *plan) best() int { return p.bestIf(func(*plan) {}) }

// bestIf returns what a best mending is worth if something is changed.
func (p *plan) bestIf(change func(*plan)) int {
	q := p.trial()
	change(&q)
	q.mend()
	return q.worth()
}

// Surely returns the flaws that all best mendings mend, and those that some do: those for which a best mending is worth less if they are worth less, and more if they are worth more.
func Surely(t api.Tour) ([]int, []int, api.Errno) {
	if e := Check(t); e != api.OK {
		return nil, nil, e
	}
	p := planOf(t, t.Closed)
	best := p.best()
	var surely, possibly []int
	for i, f := range t.Flaws {
		if p.bestIf(func(q *plan) { q.flaws[i].Merit-- }) < best {
			surely = append(surely, f.ID)
		}
		if p.bestIf(func(q *plan) { q.flaws[i].Merit++ }) > best {
			possibly = append(possibly, f.ID)
		}
	}
	slices.Sort(surely)
	slices.Sort(possibly)
	return surely, possibly, api.OK
}

// bestDays yields the days on which some best mending mends a flaw: with just this day, and one more in worth, a best mending is worth one more.
func (p *plan) bestDays(flaw int) iter.Seq[int] {
	return func(yield func(int) bool) {
		best := p.best()
		for day := range p.open(p.flaws[flaw].Days) {
			more := p.bestIf(func(q *plan) {
				q.flaws[flaw].Days = api.Span{Lo: day, Hi: day}
				q.flaws[flaw].Merit++
			})
			if more > best && !yield(day) {
				return
			}
		}
	}
}

// Days returns the days on which best mendings mend a flaw.
func Days(t api.Tour, id int) ([]int, api.Errno) {
	at, e := indexOf(t, id)
	if e != api.OK {
		return nil, e
	}
	p := planOf(t, t.Closed)
	return slices.Collect(p.bestDays(at)), api.OK
}

// Earliest returns the best mending whose days are the first ones. A flaw that has its day, or none, is worth nothing to the rest, and its day is closed.
func Earliest(t api.Tour) ([]int, api.Errno) {
	if e := Check(t); e != api.OK {
		return nil, e
	}
	p := planOf(t, t.Closed)
	var on []int
	for i := range t.Flaws {
		day := firstOf(p.bestDays(i))
		if day != none {
			p.days[day] = closed
		}
		p.flaws[i].Merit = 0
		on = append(on, day)
	}
	return on, api.OK
}

// firstOf returns the first one of some days, if there are any.
func firstOf(days iter.Seq[int]) int {
	for day := range days {
		return day
	}
	return none
}

// Gain returns by how much a best mending is worth more if a day is open.
func Gain(t api.Tour, day int) (int, api.Errno) {
	if e := checkDay(t, day); e != api.OK {
		return 0, e
	}
	p := planOf(t, t.Closed)
	return p.bestIf(func(q *plan) { q.days[day] = free }) - p.best(), api.OK
}

// Lost returns by how much a best mending is worth less if a day is closed.
func Lost(t api.Tour, day int) (int, api.Errno) {
	if e := checkDay(t, day); e != api.OK {
		return 0, e
	}
	p := planOf(t, t.Closed)
	return p.best() - p.bestIf(func(q *plan) { q.days[day] = closed }), api.OK
}

// Wider returns by how much a best mending is worth more with other days of a flaw.
func Wider(t api.Tour, id int, days api.Span) (int, api.Errno) {
	at, e := indexOf(t, id)
	if e != api.OK {
		return 0, e
	}
	if !isSpan(t, days) {
		return 0, api.ErrArg
	}
	p := planOf(t, t.Closed)
	return p.bestIf(func(q *plan) { q.flaws[at].Days = days }) - p.best(), api.OK
}
