package descent

import (
	"slices"

	"pecia/api"
)

// fullBook returns the book of a stock in which each copy has a model; or the first error.
func fullBook(s api.Stock) (book[int], api.Errno) {
	if e := Check(s); e != api.OK {
		return nil, e
	}
	b := bookOf(s)
	if len(b.orphans()) > 0 {
		return nil, api.ErrClash
	}
	return b, api.OK
}

// Least returns how many slips arise at least.
func Least(s api.Stock) (int, api.Errno) {
	d, e := Best(s)
	return d.Arise, e
}

// Best returns a descent in which the fewest slips arise.
func Best(s api.Stock) (api.Descent, api.Errno) {
	b, e := fullBook(s)
	if e != api.OK {
		return api.Descent{}, e
	}
	var d api.Descent
	for _, c := range s.Copies {
		d.Parents = append(d.Parents, b.best(c.ID)[0])
		d.Arise += b.least(c.ID)
	}
	return d, api.OK
}

// CheckBest returns OK if a descent is one in which the fewest slips arise.
func CheckBest(s api.Stock, d api.Descent) api.Errno {
	if e := Check(s); e != api.OK {
		return e
	}
	b := bookOf(s)
	if !areParents(s, b, d.Parents) {
		return api.ErrProof
	}
	arise := 0
	for i, c := range s.Copies {
		n := b[c.ID][d.Parents[i]]
		if n > b.least(c.ID) {
			return api.ErrProof
		}
		arise += n
	}
	if d.Arise != arise {
		return api.ErrProof
	}
	return api.OK
}

// areParents reports whether there is a parent for each copy, in order, that can be its model.
func areParents(s api.Stock, b book[int], parents []int) bool {
	if len(parents) != len(s.Copies) {
		return false
	}
	for i, c := range s.Copies {
		if _, can := b[c.ID][parents[i]]; !can {
			return false
		}
	}
	return true
}

// Count returns how many such descents there are.
func Count(s api.Stock) (int, api.Errno) {
	b, e := fullBook(s)
	if e != api.OK {
		return 0, e
	}
	n := 1
	for child := range b {
		n = min(n*len(b.best(child)), api.MaxLists)
	}
	return n, api.OK
}

// Surely returns what is so in all such descents.
func Surely(s api.Stock) ([]api.Kin, api.Errno) { return kinsOf(s, book[int].sure) }

// Possibly returns what is so in some such descent.
func Possibly(s api.Stock) ([]api.Kin, api.Errno) { return kinsOf(s, book[int].best) }

// kinsOf returns each copy with the parents that a method of the book chooses for it.
func kinsOf(s api.Stock, choose func(book[int], int) []int) ([]api.Kin, api.Errno) {
	b, e := fullBook(s)
	if e != api.OK {
		return nil, e
	}
	var kins []api.Kin
	for _, child := range sorted(b) {
		for _, parent := range choose(b, child) {
			kins = append(kins, api.Kin{Child: child, Parent: parent})
		}
	}
	return kins, api.OK
}

// Made returns how many slips more arise at least if a copy was made from another one.
func Made(s api.Stock, k api.Kin) (int, api.Errno) {
	if e := checkKin(s, k); e != api.OK {
		return 0, e
	}
	b, e := fullBook(s)
	if e != api.OK {
		return 0, e
	}
	arise, can := b[k.Child][k.Parent]
	if !can {
		return 0, api.ErrProof
	}
	return arise - b.least(k.Child), api.OK
}

// Arose returns the copies in which a slip arises in all such descents, and in some.
func Arose(s api.Stock, slip int) ([]int, []int, api.Errno) {
	if e := checkSlip(s, slip); e != api.OK {
		return nil, nil, e
	}
	b, e := fullBook(s)
	if e != api.OK {
		return nil, nil, e
	}
	surely, possibly := arose(s, b, slip)
	return surely, possibly, api.OK
}

// arose returns the copies that hold a slip and whose best models, all or some, do not.
func arose(s api.Stock, b book[int], slip int) (surely, possibly []int) {
	all := holders(s, slip)
	hold := setOf(all)
	for _, child := range all {
		best := b.best(child)
		if !hold.has(best...) {
			possibly = append(possibly, child)
		}
		if !hold.hasAny(best) {
			surely = append(surely, child)
		}
	}
	return surely, possibly
}

// Twice returns the slips that arise twice at least in all such descents. (As parents are chosen one by one, there is one in which a slip arises in no other copies than those in which it surely does.)
func Twice(s api.Stock) ([]int, api.Errno) {
	b, e := fullBook(s)
	if e != api.OK {
		return nil, e
	}
	return slices.DeleteFunc(slips(s), func(slip int) bool {
		surely, _ := arose(s, b, slip)
		return len(surely) < 2
	}), api.OK
}

// What is known of a copy and a parent.
const (
	neither = iota
	possible
	sure
)

// standing returns what is known of a copy and a parent by a book.
func standing(b book[int], k api.Kin) int {
	if len(b.orphans()) > 0 {
		return neither
	}
	if slices.Contains(b.sure(k.Child), k.Parent) {
		return sure
	}
	if slices.Contains(b.best(k.Child), k.Parent) {
		return possible
	}
	return neither
}

// Rests returns the copies without each of which alone it is another question whether a copy was made from another one.
func Rests(s api.Stock, k api.Kin) ([]int, api.Errno) {
	if e := checkKin(s, k); e != api.OK {
		return nil, e
	}
	b := bookOf(s)
	was := standing(b, k)
	return idsOf(s, func(c api.Witness) bool {
		return c.ID != k.Child && c.ID != k.Parent && standing(b.without(c.ID), k) != was
	}), api.OK
}
