package state

import (
	"slices"

	"pecia/api"
)

// idsOf returns, in increasing order, the IDs of the changes of a sheet that a closure accepts.
func idsOf(s api.Sheet, accepts func(api.Alter) bool) []int {
	var ids []int
	for _, a := range s.Alters {
		if accepts(a) {
			ids = append(ids, a.ID)
		}
	}
	slices.Sort(ids)
	return ids
}

// wasBefore reports whether a change was before a copy, by days. As these do not fall, that is so if it was before the last one of its lines.
func wasBefore(a api.Alter, days []int) bool { return a.Day <= days[a.To] }

// Seen returns the changes that the scribe surely, and possibly, had before them.
func Seen(s api.Sheet, c api.Copied) ([]int, []int, api.Errno) {
	x, e := extentOf(s, c)
	if e != api.OK {
		return nil, nil, e
	}
	surely := idsOf(s, func(a api.Alter) bool { return wasBefore(a, x.first) })
	possibly := idsOf(s, func(a api.Alter) bool { return wasBefore(a, x.last) })
	return surely, possibly, api.OK
}

// Between returns the changes that surely, and possibly, happened between two copies.
func Between(s api.Sheet, a, b api.Copied) ([]int, []int, api.Errno) {
	x, y, e := extentsOf(s, a, b)
	if e != api.OK {
		return nil, nil, e
	}
	surely := idsOf(s, func(a api.Alter) bool { return !wasBefore(a, x.last) && wasBefore(a, y.first) })
	possibly := idsOf(s, func(a api.Alter) bool { return !wasBefore(a, x.first) && wasBefore(a, y.last) })
	return surely, possibly, api.OK
}

// extentsOf returns the extents of two copies; or the first error.
func extentsOf(s api.Sheet, a, b api.Copied) (extent, extent, api.Errno) {
	for _, c := range []api.Copied{a, b} {
		if e := CheckCopy(s, c); e != api.OK {
			return extent{}, extent{}, e
		}
	}
	x, e := extentOf(s, a)
	if e != api.OK {
		return extent{}, extent{}, e
	}
	y, e := extentOf(s, b)
	return x, y, e
}

// Before reports whether a copy was surely, and possibly, ended before another one was begun.
func Before(s api.Sheet, a, b api.Copied) (bool, bool, api.Errno) {
	x, y, e := extentsOf(s, a, b)
	if e != api.OK {
		return false, false, e
	}
	end := len(s.Words) - 1
	return x.last[end] < y.first[0], x.first[end] < y.last[0], api.OK
}

// Suspects returns the changes without each of which a copy can have been made.
func Suspects(s api.Sheet, c api.Copied) ([]int, api.Errno) {
	if e := CheckCopy(s, c); e != api.OK {
		return nil, e
	}
	if courseOf(s, c).canBeMade() {
		return nil, api.OK
	}
	return idsOf(s, func(a api.Alter) bool { return courseOf(without(s, a.ID), c).canBeMade() }), api.OK
}

// Rests returns the changes without each of which the earliest or the latest days are others.
func Rests(s api.Sheet, c api.Copied) ([]int, api.Errno) {
	x, e := extentOf(s, c)
	if e != api.OK {
		return nil, e
	}
	return idsOf(s, func(a api.Alter) bool {
		y, e := extentOf(without(s, a.ID), c)
		return e != api.OK || !slices.Equal(x.first, y.first) || !slices.Equal(x.last, y.last)
	}), api.OK
}

// Add returns a sheet with a further change.
func Add(s api.Sheet, a api.Alter) (api.Sheet, api.Errno) {
	if e := Check(s); e != api.OK {
		return api.Sheet{}, e
	}
	at := 0
	for at < len(s.Alters) && s.Alters[at].Day <= a.Day {
		at++
	}
	more := api.Sheet{Words: slices.Clone(s.Words), Alters: slices.Insert(slices.Clone(s.Alters), at, a)}
	if e := Check(more); e != api.OK {
		return api.Sheet{}, e
	}
	return more, api.OK
}

// Without returns a sheet without some changes.
func Without(s api.Sheet, ids []int) (api.Sheet, api.Errno) {
	if e := Check(s); e != api.OK {
		return api.Sheet{}, e
	}
	return without(s, ids...), api.OK
}

func without(s api.Sheet, ids ...int) api.Sheet {
	gone := map[int]bool{}
	for _, id := range ids {
		gone[id] = true
	}
	less := api.Sheet{Words: slices.Clone(s.Words)}
	for _, a := range s.Alters {
		if !gone[a.ID] {
			less.Alters = append(less.Alters, a)
		}
	}
	return less
}
