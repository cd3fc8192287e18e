package slip

import (
	"slices"

	"pecia/api"
)

// clone returns a copying that shares no memory with another one.
func clone(c api.Copying) api.Copying {
	mixes := make([]api.Mix, len(c.Hand.Mixes))
	copy(mixes, c.Hand.Mixes)
	c.Hand.Mixes = mixes
	c.Text = slices.Clone(c.Text)
	c.Copy = slices.Clone(c.Copy)
	c.Glosses = slices.Clone(c.Glosses)
	for i, g := range c.Glosses {
		c.Glosses[i].Words = slices.Clone(g.Words)
	}
	return c
}

// Dearer returns a copying whose hand makes slips of a kind at a greater cost.
func Dearer(c api.Copying, kind, more int) (api.Copying, api.Errno) {
	if e := Check(c); e != api.OK {
		return api.Copying{}, e
	}
	if !within(kind, mix, add) || !within(more, 0, api.MaxSlipCost) {
		return api.Copying{}, api.ErrArg
	}
	dearer := clone(c)
	for _, cost := range costsOf(&dearer.Hand, kind) {
		*cost += more
		if !isCost(*cost) {
			return api.Copying{}, api.ErrLimit
		}
	}
	return dearer, api.OK
}

// costsOf returns where a hand has the costs of a kind of slips.
func costsOf(h *api.Hand, kind int) []*int {
	switch kind {
	case omit:
		return []*int{&h.Omit}
	case leap:
		return []*int{&h.Leap}
	case twice:
		return []*int{&h.Twice}
	case gloss:
		return []*int{&h.Gloss}
	case add:
		return []*int{&h.Add}
	}
	var costs []*int
	for i := range h.Mixes {
		costs = append(costs, &h.Mixes[i].Cost)
	}
	return costs
}

// Nearest returns the texts from which a copy costs the least.
func Nearest(c api.Copying, texts [][]int) ([]int, int, api.Errno) {
	if e := Check(c); e != api.OK {
		return nil, 0, e
	}
	if e := checkTexts(texts); e != api.OK {
		return nil, 0, e
	}
	var nearest []int
	least := unreached
	for i, text := range texts {
		cost, _ := Least(api.Copying{Hand: c.Hand, Text: text, Copy: c.Copy})
		if cost < least {
			nearest, least = nil, cost
		}
		if cost == least {
			nearest = append(nearest, i)
		}
	}
	return nearest, least, api.OK
}

func checkTexts(texts [][]int) api.Errno {
	if len(texts) == 0 {
		return api.ErrNone
	}
	if len(texts) > api.MaxTexts {
		return api.ErrLimit
	}
	for _, text := range texts {
		if len(text) > api.MaxLong {
			return api.ErrLimit
		}
	}
	for _, text := range texts {
		if !areWords(text) {
			return api.ErrArg
		}
	}
	return api.OK
}

// Cut returns the two copyings into which a place divides one.
func Cut(c api.Copying, at, in int) (api.Copying, api.Copying, api.Errno) {
	if e := Check(c); e != api.OK {
		return api.Copying{}, api.Copying{}, e
	}
	if !isPlace(c, place{at, in}) {
		return api.Copying{}, api.Copying{}, api.ErrArg
	}
	first := api.Copying{Hand: c.Hand, Text: c.Text[:at], Copy: c.Copy[:in]}
	second := api.Copying{Hand: c.Hand, Text: c.Text[at:], Copy: c.Copy[in:]}
	for _, g := range c.Glosses {
		if g.At <= at {
			first.Glosses = append(first.Glosses, g)
		}
		if g.At >= at {
			second.Glosses = append(second.Glosses, api.Gloss{At: g.At - at, Words: g.Words})
		}
	}
	return clone(first), clone(second), api.OK
}
