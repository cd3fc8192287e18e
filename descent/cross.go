package descent

import (
	"slices"

	"pecia/api"
)

// A mark is a slip, and the copies that hold it: the bit i is of the copy with the index i.
type mark struct {
	slip    int
	holders uint
}

// marksOf returns the marks of a stock, by their slips.
func marksOf(s api.Stock) []mark {
	holders := map[int]uint{}
	for i, c := range s.Copies {
		for _, slip := range c.Slips {
			holders[slip] |= 1 << i
		}
	}
	var marks []mark
	for _, slip := range sorted(holders) {
		marks = append(marks, mark{slip, holders[slip]})
	}
	return marks
}

func (a mark) crosses(b mark) bool {
	return a.holders&b.holders != 0 && a.holders&^b.holders != 0 && b.holders&^a.holders != 0
}

// firstCrossing returns the first two marks that cross each other, if any do.
func firstCrossing(marks []mark) (a, b mark, is bool) {
search:
	for i := range marks {
		for _, other := range marks[i+1:] {
			if marks[i].crosses(other) {
				a, b, is = marks[i], other, true
				break search
			}
		}
	}
	return a, b, is
}

// Cross returns two slips that cross each other.
func Cross(s api.Stock) (api.Crossing, bool, api.Errno) {
	if e := Check(s); e != api.OK {
		return api.Crossing{}, false, e
	}
	a, b, is := firstCrossing(marksOf(s))
	if !is {
		return api.Crossing{}, false, api.OK
	}
	return api.Crossing{
		A:     a.slip,
		B:     b.slip,
		Both:  leastID(s, a.holders&b.holders),
		One:   leastID(s, a.holders&^b.holders),
		Other: leastID(s, b.holders&^a.holders),
	}, true, api.OK
}

// leastID returns the least ID of the copies whose bits are set; at least one is.
func leastID(s api.Stock, bits uint) int {
	var ids []int
	for i, c := range s.Copies {
		if bits>>i&1 == 1 {
			ids = append(ids, c.ID)
		}
	}
	return slices.Min(ids)
}

// CheckCross returns OK if two slips cross each other. (If they are the same one, no copy has the first alone.)
func CheckCross(s api.Stock, x api.Crossing) api.Errno {
	if e := Check(s); e != api.OK {
		return e
	}
	copies := copiesOf(s)
	both, one, other := setOf(copies[x.Both].Slips), setOf(copies[x.One].Slips), setOf(copies[x.Other].Slips)
	if !both.has(x.A, x.B) || !one.has(x.A) || one.has(x.B) || !other.has(x.B) || other.has(x.A) {
		return api.ErrProof
	}
	return api.OK
}

// Drop returns the first fewest slips without which no slips cross each other.
func Drop(s api.Stock) ([]int, api.Errno) {
	if e := Check(s); e != api.OK {
		return nil, e
	}
	marks := marksOf(s)
	for n := 0; n <= api.MaxDrop; n++ {
		if l, are := firstDrop(marks, n); are {
			return l, api.OK
		}
	}
	return nil, api.ErrLimit
}

// firstDrop returns the first list of n slips without which no marks cross each other, if there is one; fewer slips must not be enough. One of any two that cross has to be among them; and as no slip that crosses another one is less than the first one here, lists with it come first.
func firstDrop(marks []mark, n int) ([]int, bool) {
	a, b, is := firstCrossing(marks)
	if !is || n == 0 {
		return nil, !is
	}
	for _, gone := range []mark{a, b} {
		rest := slices.DeleteFunc(slices.Clone(marks), func(m mark) bool { return m == gone })
		if l, are := firstDrop(rest, n-1); are {
			l = append(l, gone.slip)
			slices.Sort(l)
			return l, true
		}
	}
	return nil, false
}
