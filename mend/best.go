package mend

import (
	"slices"

	"pecia/api"
)

// Best returns a best mending.
func Best(t api.Tour) (api.Mending, api.Errno) {
	if e := Check(t); e != api.OK {
		return api.Mending{}, e
	}
	p := planOf(t, t.Closed)
	p.mend()
	return p.mending(), api.OK
}

// Merit returns what a best mending is worth.
func Merit(t api.Tour) (int, api.Errno) {
	m, e := Best(t)
	return m.Merit, e
}

// mending returns what is mended by a best plan of one corrector, and what it is worth, with spans that prove it.
func (p *plan) mending() api.Mending {
	m := api.Mending{Merit: p.worth()}
	for i := range p.flaws {
		day := p.dayOf(i)
		m.On = append(m.On, day)
		if day == none {
			m.Full = append(m.Full, p.fullFor(i))
		} else {
			m.Full = append(m.Full, api.Span{})
		}
	}
	return m
}

// fullFor returns a span that refuses a flaw that is not mended by a best plan: the days of all flaws of its trail. These are one span, as each one but the first has a day within the days of another one; all of its open days are on the trail, and so are the flaws that have them, none of which is worth less.
func (p *plan) fullFor(flaw int) api.Span {
	tr := p.trailOf(flaw)
	first := bestOf(tr.flaws, func(i int) int { return -p.flaws[i].Days.Lo })
	last := bestOf(tr.flaws, func(i int) int { return p.flaws[i].Days.Hi })
	return api.Span{Lo: p.flaws[first].Days.Lo, Hi: p.flaws[last].Days.Hi}
}

// CheckBest returns OK if a mending is a best one.
func CheckBest(t api.Tour, m api.Mending) api.Errno {
	if e := Check(t); e != api.OK {
		return e
	}
	p, are := planBy(t, m.On)
	if !are || m.Merit != p.worth() || len(m.Full) != len(t.Flaws) {
		return api.ErrProof
	}
	for i, s := range m.Full {
		isMended := p.dayOf(i) != none
		if isMended && s != (api.Span{}) || !isMended && !(isSpan(t, s) && p.refuses(s, i)) {
			return api.ErrProof
		}
	}
	return api.OK
}

// refuses reports whether a span of days has the days of a flaw, and is full of flaws that are worth no less.
func (p *plan) refuses(s api.Span, flaw int) bool {
	n := 0
	for i, f := range p.flaws {
		if !liesIn(f.Days, s) || p.dayOf(i) == none {
			continue
		}
		if f.Merit < p.flaws[flaw].Merit {
			return false
		}
		n++
	}
	return liesIn(p.flaws[flaw].Days, s) && n == p.room(s)
}

// Later returns a best mending with a further flaw.
func Later(t api.Tour, m api.Mending, f api.Flaw) (api.Mending, api.Errno) {
	e := CheckBest(t, m)
	if e == api.ErrProof {
		return api.Mending{}, api.ErrState
	}
	if e != api.OK {
		return api.Mending{}, e
	}
	t.Flaws = append(slices.Clone(t.Flaws), f)
	if e := Check(t); e != api.OK {
		return api.Mending{}, e
	}
	p := planOf(t, t.Closed)
	p.follow(m.On)
	p.add(len(m.On))
	return p.mending(), api.OK
}
