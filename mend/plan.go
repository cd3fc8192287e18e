package mend

import (
	"iter"
	"slices"

	"pecia/api"
)

// correctors is how many of them go on a tour at most.
const correctors = 2

// What is on a day that no flaw has.
const (
	free   = -1
	closed = -2
)

// none is the day of a flaw that is not mended, and who mends it.
const none = -1

// A plan is flaws, and what is on each day: the index of a flaw, or that the day is free, or closed. The days of the second corrector are numbered from api.MaxTour on.
type plan struct {
	flaws []api.Flaw
	days  [correctors * api.MaxTour]int
}

// planOf returns the plan of a tour on which nothing is mended, with the days that are closed for each of its correctors.
func planOf(t api.Tour, shut ...[]int) plan {
	p := plan{flaws: slices.Clone(t.Flaws)}
	for at := range p.days {
		p.days[at] = closed
	}
	for by, l := range shut {
		for day := range t.Days {
			if !slices.Contains(l, day) {
				p.days[by*api.MaxTour+day] = free
			}
		}
	}
	return p
}

// planBy returns the plan of a tour that some numbers tell, and whether they are days for the flaws.
func planBy(t api.Tour, on []int) (plan, bool) {
	p := planOf(t, t.Closed)
	are := len(on) == len(t.Flaws) && p.follow(on) == len(on)
	return p, are
}

// follow gives each flaw the day that is told of it, up to the first one that cannot have it, and returns how many have what is told.
func (p *plan) follow(on []int) int {
	for i, day := range on {
		if day != none && !p.put(i, 0, day) {
			return i
		}
	}
	return len(on)
}

// put lets a corrector mend a flaw on a day, and reports whether this is possible.
func (p *plan) put(flaw, by, day int) bool {
	s := p.flaws[flaw].Days
	if !within(by, 0, correctors-1) || !within(day, s.Lo, s.Hi) || p.days[by*api.MaxTour+day] != free {
		return false
	}
	p.days[by*api.MaxTour+day] = flaw
	return true
}

// trial returns a plan with the same flaws and days that can be changed by itself.
func (p *plan) trial() plan {
	own := plan{flaws: make([]api.Flaw, len(p.flaws)), days: p.days}
	copy(own.flaws, p.flaws)
	return own
}

// open yields the days of a span that are not closed, those of the first corrector first.
func (p *plan) open(s api.Span) iter.Seq[int] {
	return func(yield func(int) bool) {
		for by := range correctors {
			for day := by*api.MaxTour + s.Lo; day <= by*api.MaxTour+s.Hi; day++ {
				if p.days[day] != closed && !yield(day) {
					return
				}
			}
		}
	}
}

// room returns how many days of a span are open.
func (p *plan) room(s api.Span) int {
	n := 0
	for range p.open(s) {
		n++
	}
	return n
}

// dayOf returns the day of a flaw.
func (p *plan) dayOf(flaw int) int { return slices.Index(p.days[:], flaw) }

// worth returns what is mended is worth.
func (p *plan) worth() int {
	n := 0
	for _, flaw := range p.days {
		if flaw >= 0 {
			n += p.flaws[flaw].Merit
		}
	}
	return n
}

// A trail is what a flaw that is not mended can set in motion: the flaws one of which could be left out for it (the first one is it itself); the flaw that would take each day; and a free day, if there is one on it: then no flaw has to be left out.
type trail struct {
	flaws []int
	takes [correctors * api.MaxTour]int
	free  int
}

// trailOf returns the trail of a flaw.
func (p *plan) trailOf(flaw int) trail {
	tr := trail{flaws: []int{flaw}, free: none}
	for day := range tr.takes {
		tr.takes[day] = none
	}
	who := func(day int) (int, bool) { return p.days[day], p.days[day] != free }
search:
	for i := 0; i < len(tr.flaws); i++ {
		for day := range p.open(p.flaws[tr.flaws[i]].Days) {
			if tr.takes[day] != none {
				continue
			}
			tr.takes[day] = tr.flaws[i]
			holder, has := who(day)
			if !has {
				tr.free = day
				break search
			}
			tr.flaws = append(tr.flaws, holder)
		}
	}
	return tr
}

// add mends a further flaw, so that a best plan of the others becomes a best plan of all. If there is no free day for that, the flaw of its trail that is worth least is left out: it itself, where no other one is worth less.
func (p *plan) add(flaw int) {
	tr := p.trailOf(flaw)
	day := tr.free
	if day == none {
		day = p.dayOf(bestOf(tr.flaws, func(i int) int { return -p.flaws[i].Merit }))
	}
	for day != none {
		taker := tr.takes[day]
		was := p.dayOf(taker)
		p.days[day] = taker
		day = was
	}
}

// mend makes a plan on which nothing is mended a best one.
func (p *plan) mend() {
	for i := range p.flaws {
		p.add(i)
	}
}

// bestOf returns, of some things, the first one that is worth the most.
func bestOf[T any](things []T, worth func(T) int) T {
	best := things[0]
	for _, x := range things[1:] {
		if worth(x) > worth(best) {
			best = x
		}
	}
	return best
}
