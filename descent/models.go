package descent

import (
	"cmp"
	"iter"
	"maps"
	"slices"

	"pecia/api"
)

// firstText is the ID of the first text.
const firstText = 0

// Why a copy cannot be the model of another one.
const (
	fits = iota
	isItself
	isLate
	hasOtherSlip
	wasNotAtHand
)

// whyNot returns why a copy cannot be the model of another one, and the slip that shows it, if one does.
func whyNot(parent, child api.Witness) (int, int) {
	if parent.ID == child.ID {
		return isItself, 0
	}
	if parent.Made.Hi >= child.Made.Lo {
		return isLate, 0
	}
	at := slices.IndexFunc(parent.Slips, func(slip int) bool {
		return !slices.Contains(child.Slips, slip) && !slices.Contains(child.Mended, slip)
	})
	if at >= 0 {
		return hasOtherSlip, parent.Slips[at]
	}
	if len(child.Models) > 0 && !slices.Contains(child.Models, parent.ID) {
		return wasNotAtHand, 0
	}
	return fits, 0
}

// candidate returns a copy, or the first text as a copy that was there ahead of all days.
func candidate(s api.Stock, id int) api.Witness {
	if id == firstText {
		return api.Witness{ID: firstText, Made: api.Span{Lo: -1, Hi: -1}}
	}
	return copiesOf(s)[id]
}

// models yields what can be the model of a copy, with how many slips arise in the copy then.
func models(s api.Stock, child api.Witness) iter.Seq2[int, int] {
	return func(yield func(parent, arise int) bool) {
		candidates := append([]api.Witness{candidate(s, firstText)}, s.Copies...)
		for _, c := range candidates {
			if why, _ := whyNot(c, child); why == fits && !yield(c.ID, newSlips(c, child)) {
				return
			}
		}
	}
}

// newSlips returns how many slips of a copy its model does not have.
func newSlips(parent, child api.Witness) int {
	n := 0
	for _, slip := range child.Slips {
		if !slices.Contains(parent.Slips, slip) {
			n++
		}
	}
	return n
}

// A book of models tells for each copy what can be its model, and how many slips arise in the copy then.
type book[K cmp.Ordered] map[K]map[K]int

func bookOf(s api.Stock) book[int] {
	b := book[int]{}
	for _, child := range s.Copies {
		b[child.ID] = map[int]int{}
		for parent, arise := range models(s, child) {
			b[child.ID][parent] = arise
		}
	}
	return b
}

// without returns the book without a copy. All others have the same models, but that one.
func (b book[K]) without(id K) book[K] {
	less := book[K]{}
	for child, parents := range b {
		if child != id {
			less[child] = maps.Clone(parents)
			delete(less[child], id)
		}
	}
	return less
}

// orphans returns the copies that have no model.
func (b book[K]) orphans() []K {
	return slices.DeleteFunc(sorted(b), func(child K) bool { return len(b[child]) > 0 })
}

// least returns how many slips arise at least in a copy that has a model.
func (b book[K]) least(child K) int {
	var all []int
	for _, arise := range b[child] {
		all = append(all, arise)
	}
	return slices.Min(all)
}

// best returns the models of a copy with which the fewest slips arise in it; it has a model.
func (b book[K]) best(child K) []K {
	least := b.least(child)
	return slices.DeleteFunc(sorted(b[child]), func(parent K) bool { return b[child][parent] > least })
}

// sure returns the only best model of a copy, and nothing if there are others.
func (b book[K]) sure(child K) []K {
	if best := b.best(child); len(best) == 1 {
		return best
	}
	return nil
}

// Can reports whether a copy can have been made from another one.
func Can(s api.Stock, k api.Kin) (bool, api.Errno) {
	why, _, e := Why(s, k)
	return e == api.OK && why == fits, e
}

// Why returns why a copy cannot have been made from another one.
func Why(s api.Stock, k api.Kin) (int, int, api.Errno) {
	if e := checkKin(s, k); e != api.OK {
		return 0, 0, e
	}
	why, slip := whyNot(candidate(s, k.Parent), candidate(s, k.Child))
	return why, slip, api.OK
}

// Models returns from which copies one can have been made.
func Models(s api.Stock, child int) ([]int, api.Errno) {
	if e := checkChild(s, child); e != api.OK {
		return nil, e
	}
	return sorted(bookOf(s)[child]), api.OK
}

// Orphans returns the copies that have no model.
func Orphans(s api.Stock) ([]int, api.Errno) {
	if e := Check(s); e != api.OK {
		return nil, e
	}
	return bookOf(s).orphans(), api.OK
}
