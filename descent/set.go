package descent

import (
	"cmp"
	"slices"
)

// A set is slips, or IDs.
type set map[int]bool

func setOf(l []int) set {
	x := set{}
	x.add(l)
	return x
}

func (x set) add(l []int) {
	for _, n := range l {
		x[n] = true
	}
}

// has reports whether a set has all of some numbers.
func (x set) has(numbers ...int) bool {
	for _, n := range numbers {
		if !x[n] {
			return false
		}
	}
	return true
}

func (x set) hasAny(l []int) bool { return slices.ContainsFunc(l, func(n int) bool { return x[n] }) }

// sorted returns the keys of a map in increasing order.
func sorted[K cmp.Ordered, V any](m map[K]V) []K {
	var keys []K
	for k := range m {
		keys = append(keys, k)
	}
	slices.Sort(keys)
	return keys
}
