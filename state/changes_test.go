package state_test

import (
	"slices"
	"testing"

	"pecia/api"
	"pecia/state"
)

// wantSeen is Seen of a copy.
func wantSeen(t *testing.T, s api.Sheet, c api.Copied, surely, possibly []int) {
	t.Helper()
	all, some, e := state.Seen(s, c)
	wantErr(t, "Seen", e, api.OK)
	want(t, "Seen surely", all, surely)
	want(t, "Seen possibly", some, possibly)
}

// wantBetween is Between of two copies.
func wantBetween(t *testing.T, s api.Sheet, a, b api.Copied, surely, possibly []int) {
	t.Helper()
	all, some, e := state.Between(s, a, b)
	wantErr(t, "Between", e, api.OK)
	want(t, "Between surely", all, surely)
	want(t, "Between possibly", some, possibly)
}

// wantBefore is Before of two copies.
func wantBefore(t *testing.T, s api.Sheet, a, b api.Copied, surely, possibly bool) {
	t.Helper()
	all, some, e := state.Before(s, a, b)
	wantErr(t, "Before", e, api.OK)
	want(t, "Before surely", all, surely)
	want(t, "Before possibly", some, possibly)
}

// wantSuspects is Suspects of a copy.
func wantSuspects(t *testing.T, s api.Sheet, c api.Copied, ids ...int) {
	t.Helper()
	l, e := state.Suspects(s, c)
	wantErr(t, "Suspects", e, api.OK)
	want(t, "Suspects", l, ids)
}

// wantRests is Rests of a copy.
func wantRests(t *testing.T, s api.Sheet, c api.Copied, ids ...int) {
	t.Helper()
	l, e := state.Rests(s, c)
	wantErr(t, "Rests", e, api.OK)
	want(t, "Rests", l, ids)
}

// TestSeen is of P3.8: a change counts by all of its lines, also where it did nothing, and IDs rise.
func TestSeen(t *testing.T) {
	s := example()
	wantSeen(t, s, copied(0, 5, 2, 11, 12, 13, 14), nil, nil)
	wantSeen(t, s, copied(0, 10, 4, 11, 12, 13, 14), nil, []int{1})
	wantSeen(t, s, copied(0, 9, 4, 11, 12, 13, 14), nil, nil)
	wantSeen(t, s, copied(10, 29, 4, 11, 12, 13, 14), []int{1}, []int{1})
	wantSeen(t, s, copied(10, 100, 4, 11, 12, 13, 14), []int{1}, []int{1})
	wantSeen(t, s, copied(0, 30, 4, 11, 12, 33, 14), []int{2}, []int{1, 2})
	wantSeen(t, s, copied(40, 40, 4, 0, 22, 33, 0), []int{1, 2, 3, 4}, []int{1, 2, 3, 4})
	wantSeen(t, s, copied(0, 100, 4, 11, 12, 33, 0), []int{2, 4}, []int{1, 2, 4})
	wantSeen(t, s, copied(0, 100, 1, 11, 12, 13, 0), []int{4}, []int{1, 4})
	wide := sheet([]int{1, 2, 3}, wear(7, 10, 1, 1), lose(3, 10, 0, 1), wear(9, 20, 0, 2), wear(1, 20, 0, 1), wear(5, 20, 0, 0))
	wantSeen(t, wide, copied(0, 30, 3, 1, 2, 3), nil, nil)
	wantSeen(t, wide, copied(0, 30, 3, 1, 0, 3), []int{3, 7}, []int{3, 7})
	wantSeen(t, wide, copied(0, 30, 3, 1, 0, 0), []int{3, 7, 9}, []int{1, 3, 7, 9})
	wantSeen(t, wide, copied(15, 25, 3, 0, 0, 0), []int{3, 7, 9}, []int{1, 3, 5, 7, 9})
	wantSeen(t, sheet([]int{1}), copied(0, 30, 3, 1), nil, nil)
}

// TestBetween is of P3.8.
func TestBetween(t *testing.T) {
	s := example()
	early, late := copied(0, 5, 2, 11, 12, 13, 14), exampleCopy()
	wantBetween(t, s, early, late, []int{1, 2}, []int{1, 2, 3})
	wantBetween(t, s, late, early, nil, nil)
	wantBetween(t, s, early, early, nil, nil)
	wantBetween(t, s, late, late, nil, []int{3})
	wantBetween(t, s, early, copied(40, 50, 4, 0, 22, 33, 0), []int{1, 2, 3, 4}, []int{1, 2, 3, 4})
	wantBetween(t, s, late, copied(40, 50, 4, 0, 22, 33, 0), []int{4}, []int{3, 4})
	wantBetween(t, s, copied(0, 10, 4, 11, 12, 13, 14), late, []int{2}, []int{1, 2, 3})
	wantBetween(t, s, copied(0, 9, 4, 11, 12, 13, 14), late, []int{1, 2}, []int{1, 2, 3})
	fall := sheet([]int{1}, inMargin(9, 1, 0, 2), inMargin(5, 2, 0, 3), inMargin(7, 3, 0, 4))
	wantBetween(t, fall, copied(0, 0, 1, 1), copied(3, 9, 1, 1), []int{5, 7, 9}, []int{5, 7, 9})
	wantBetween(t, fall, copied(0, 2, 1, 1), copied(2, 9, 1, 1), nil, []int{5, 7, 9})
	wantBetween(t, fall, copied(0, 1, 1, 1), copied(2, 9, 1, 1), []int{5}, []int{5, 7, 9})
}

// TestBefore is of P3.12.
func TestBefore(t *testing.T) {
	s := example()
	early, late := copied(0, 5, 2, 11, 12, 13, 14), exampleCopy()
	wantBefore(t, s, early, late, false, true)
	wantBefore(t, s, late, early, false, false)
	wantBefore(t, s, early, early, false, true)
	wantBefore(t, s, early, copied(6, 30, 4, 11, 12, 13, 14), true, true)
	wantBefore(t, s, early, copied(5, 30, 4, 11, 12, 13, 14), false, true)
	wantBefore(t, s, copied(6, 30, 4, 11, 12, 13, 14), early, false, false)
	wantBefore(t, s, late, copied(40, 50, 4, 0, 22, 33, 0), true, true)
	wantBefore(t, s, late, copied(0, 50, 4, 0, 22, 33, 0), false, true)
	wantBefore(t, s, late, copied(0, 30, 4, 11, 12, 33, 14), false, true)
	wantBefore(t, s, late, copied(0, 20, 4, 11, 12, 33, 14), false, false)
	one := sheet([]int{1}, erase(1, 5, 0, 2))
	wantBefore(t, one, copied(0, 9, 1, 1), copied(0, 9, 1, 2), true, true)
	wantBefore(t, one, copied(0, 9, 1, 2), copied(0, 9, 1, 1), false, false)
	wantBefore(t, one, copied(3, 3, 1, 1), copied(3, 3, 1, 1), false, false)
	wantBefore(t, one, copied(3, 4, 1, 1), copied(3, 4, 1, 1), false, true)
}

// TestSuspects is of P3.9.
func TestSuspects(t *testing.T) {
	s := example()
	wantSuspects(t, s, copied(25, 100, 2, 11, 12, 33, 14))
	wantSuspects(t, s, copied(35, 100, 2, 11, 12, 33, 14), 3)
	wantSuspects(t, s, exampleCopy())
	wantSuspects(t, s, copied(45, 100, 2, 11, 12, 33, 14)) // two changes are in the way
	wantSuspects(t, s, copied(0, 100, 2, 0, 12, 13, 14))   // none is
	wantSuspects(t, s, copied(0, 100, 2, 0, 0, 0, 0))
	wantSuspects(t, s, copied(30, 30, 4, 0, 0, 33, 14), 1)
	wantSuspects(t, s, copied(41, 50, 4, 0, 22, 33, 14), 4)
	fall := sheet([]int{1}, erase(9, 5, 0, 2), lose(4, 6, 0, 0), inMargin(7, 7, 0, 2), lose(2, 8, 0, 0))
	wantSuspects(t, fall, copied(7, 7, 1, 2), 4)
	wantSuspects(t, fall, copied(5, 5, 1, 1), 9)
	wantSuspects(t, fall, copied(0, 9, 1, 1))
	two := sheet([]int{1}, erase(9, 5, 0, 1), erase(3, 5, 0, 2), erase(7, 5, 0, 3), inMargin(2, 6, 0, 1), lose(1, 6, 0, 0))
	wantSuspects(t, two, copied(6, 6, 1, 1), 1)
	wantSuspects(t, two, copied(5, 5, 1, 2), 7)
	worn := sheet([]int{1, 2}, wear(9, 5, 0, 0), wear(4, 5, 1, 1), lose(6, 9, 0, 0))
	wantSuspects(t, worn, copied(5, 8, 2, 1, 0), 9)
	wantSuspects(t, worn, copied(5, 8, 2, 1, 2))
}

// TestSuspectsOfSeveral is of P3.9: each one of several changes alone is in the way, and their IDs rise.
func TestSuspectsOfSeveral(t *testing.T) {
	// The first line can be copied from the day 5 on, without 9 from 0 on; the second one up to the day 2, without 4 always.
	s := sheet([]int{1, 2}, wear(9, 0, 0, 0), wear(4, 3, 1, 1), erase(6, 5, 0, 1))
	wantSuspects(t, s, copied(0, 9, 2, 1, 2), 4, 9)
	wantSuspects(t, s, copied(3, 9, 2, 1, 2), 4)
	wantSuspects(t, s, copied(0, 4, 2, 1, 2), 9)
	wantSuspects(t, s, copied(3, 4, 2, 1, 2))
	wantSuspects(t, s, copied(0, 9, 2, 1, 0))
	// Lines that are read on too few days, so that there are too many of them for one day.
	s = sheet([]int{1, 2, 3}, wear(8, 2, 0, 0), wear(7, 2, 1, 1), wear(5, 2, 2, 2))
	wantSuspects(t, s, copied(1, 9, 2, 1, 2, 3), 5)
	wantSuspects(t, s, copied(1, 9, 3, 1, 2, 3))
	wantSuspects(t, s, copied(1, 9, 1, 1, 2, 3))
	wantSuspects(t, s, copied(1, 9, 1, 1, 2, 0), 7)
	// Of two losses of a line each one suffices.
	s = sheet([]int{1}, lose(8, 2, 0, 0), lose(7, 2, 0, 0), erase(6, 3, 0, 4))
	wantSuspects(t, s, copied(2, 9, 1, 1))
}

// TestRests is of P3.9.
func TestRests(t *testing.T) {
	s := example()
	wantRests(t, s, exampleCopy(), 1, 2, 3, 4)
	wantRests(t, s, copied(25, 100, 2, 11, 12, 33, 14), 2, 3, 4)
	wantRests(t, s, copied(25, 39, 2, 11, 12, 33, 14), 2, 3)
	wantRests(t, s, copied(25, 29, 2, 11, 12, 33, 14), 2)
	wantRests(t, s, copied(0, 5, 2, 11, 12, 13, 14))
	wantRests(t, s, copied(0, 20, 4, 11, 12, 13, 14), 2)
	fall := sheet([]int{1}, erase(9, 5, 0, 2), erase(4, 5, 0, 1), erase(7, 8, 0, 3), wear(2, 8, 0, 0))
	wantRests(t, fall, copied(0, 9, 1, 1), 4)
	wantRests(t, fall, copied(0, 9, 1, 0), 2)
	wantRests(t, fall, copied(6, 7, 1, 1), 4)
	wantRests(t, fall, copied(0, 7, 1, 1), 4)
	wantRests(t, fall, copied(0, 4, 1, 1))
	first := sheet([]int{1}, erase(9, 5, 0, 2), erase(4, 7, 0, 1))
	wantRests(t, first, copied(5, 9, 1, 1), 4, 9) // without 9 it begins earlier, without 4 it cannot be made
	last := sheet([]int{1}, erase(9, 5, 0, 2))
	wantRests(t, last, copied(0, 9, 1, 1), 9)
	wantRests(t, sheet([]int{1}), copied(0, 9, 1, 1))
}

// TestSources is of P3.10.
func TestSources(t *testing.T) {
	s := example()
	plain := sheet(s.Words)
	other := sheet([]int{1, 2, 3, 4})
	for _, x := range []struct {
		l       []api.Sheet
		c       api.Copied
		sources []int
	}{
		{nil, exampleCopy(), nil},
		{nil, api.Copied{}, nil},
		{[]api.Sheet{s}, exampleCopy(), []int{0}},
		{[]api.Sheet{plain, s, other, s}, exampleCopy(), []int{1, 3}},
		{[]api.Sheet{plain, s, other}, copied(0, 9, 4, 11, 12, 13, 14), []int{0, 1}},
		{[]api.Sheet{plain, s, other}, copied(30, 39, 4, 11, 12, 13, 14), []int{0}},
		{[]api.Sheet{plain, s, other}, copied(0, 9, 4, 11, 12, 13, 4), nil},
		{[]api.Sheet{sheet([]int{1}), sheet([]int{1, 2, 3, 4, 5}), other, sheet([]int{1, 2, 3})}, copied(0, 9, 4, 1, 2, 3, 4), []int{2}},
		{[]api.Sheet{plain, s}, copied(0, api.MaxDay+1, 4, 11, 12, 13, 14), nil},
		{[]api.Sheet{plain, s}, copied(0, 9, 0, 11, 12, 13, 14), nil},
		{[]api.Sheet{plain, s}, api.Copied{}, nil},
		{[]api.Sheet{plain, plain, plain, plain, plain, plain, plain, plain}, copied(0, 9, 4, 11, 12, 13, 14), []int{0, 1, 2, 3, 4, 5, 6, 7}},
	} {
		l, e := state.Sources(x.l, x.c)
		wantErr(t, "Sources", e, api.OK)
		want(t, "Sources", l, x.sources)
	}
}

// manySheets is so many sheets that are wrong.
func manySheets(n int) []api.Sheet { return make([]api.Sheet, n) }

// TestSheetsErrors is of P3.10 and P3.13: the errors of several sheets.
func TestSheetsErrors(t *testing.T) {
	s := example()
	twice := sheet(s.Words, wear(1, 2, 0, 0), wear(1, 3, 0, 0))
	for what, x := range map[string]struct {
		l []api.Sheet
		e api.Errno
	}{
		"too many wrong":    {manySheets(api.MaxSheets + 1), api.ErrLimit},
		"too many":          {slices.Repeat([]api.Sheet{s}, api.MaxSheets+1), api.ErrLimit},
		"the last is wrong": {[]api.Sheet{s, s, {}}, api.ErrArg},
		"twice, then wrong": {[]api.Sheet{s, twice, {}}, api.ErrTwice},
		"wrong, then twice": {[]api.Sheet{s, {}, twice}, api.ErrArg},
		"limit of changes":  {[]api.Sheet{s, sheet(s.Words, make([]api.Alter, 41)...), twice}, api.ErrLimit},
	} {
		for _, c := range []api.Copied{exampleCopy(), {}} {
			l, e := state.Sources(x.l, c)
			check(t, "Sources: "+what, e, x.e, len(l) > 0)
			from, days, n, e := state.Mixed(x.l, c)
			check(t, "Mixed: "+what, e, x.e, len(from)+len(days) > 0 || n != 0)
			n, e = state.CheckMixed(x.l, c, []int{9}, nil)
			check(t, "CheckMixed: "+what, e, x.e, n != 0)
		}
	}
}

// before is the IDs of the changes that were before a copy that was made on some days.
func before(s api.Sheet, days []int) []int {
	return idsOf(s, func(a api.Alter) bool { return wasBefore(a, days) })
}

// surelyAndPossibly is the IDs that are in all lists, and those that are in some.
func surelyAndPossibly(s api.Sheet, lists [][]int) ([]int, []int) {
	in := func(id int) int {
		n := 0
		for _, l := range lists {
			if slices.Contains(l, id) {
				n++
			}
		}
		return n
	}
	surely := idsOf(s, func(a api.Alter) bool { return in(a.ID) == len(lists) })
	return surely, idsOf(s, func(a api.Alter) bool { return in(a.ID) > 0 })
}

// TestChangesAgree is of P3.8 to P3.10 and P3.12, by trying all days of small copies.
func TestChangesAgree(t *testing.T) {
	suspects, rests, betweens, befores := 0, 0, 0, 0
	someCases(3000, func(s api.Sheet, c, d api.Copied) {
		all, others := fits(s, c), fits(s, d)
		culprits := idsOf(s, func(a api.Alter) bool { return len(all) == 0 && len(fits(removed(s, a.ID), c)) > 0 })
		wantSuspects(t, s, c, culprits...)
		suspects += len(culprits)
		sources, e := state.Sources([]api.Sheet{sheet(s.Words), s}, c)
		wantErr(t, "Sources", e, api.OK)
		want(t, "Sources", slices.Contains(sources, 1), len(all) > 0)
		want(t, "Sources", slices.Contains(sources, 0), len(fits(sheet(s.Words), c)) > 0)
		if len(all) == 0 {
			return
		}
		var seen [][]int
		for _, days := range all {
			seen = append(seen, before(s, days))
		}
		surely, possibly := surelyAndPossibly(s, seen)
		wantSeen(t, s, c, surely, possibly)
		supports := idsOf(s, func(a api.Alter) bool { return !sameEnds(all, fits(removed(s, a.ID), c)) })
		wantRests(t, s, c, supports...)
		rests += len(supports)
		if len(others) > 0 {
			n, m := pairAgrees(t, s, c, d, all, others)
			betweens, befores = betweens+n, befores+m
		}
	})
	if suspects < 50 || rests < 100 || betweens < 50 || befores < 20 {
		t.Error("too few changes of a sort:", suspects, rests, betweens, befores)
	}
}

// sameEnds is whether days that fit have the same earliest and latest ones as others, which may be none.
func sameEnds(all, others [][]int) bool {
	if len(others) == 0 {
		return false
	}
	ends := func(l [][]int) ([]int, []int) {
		least, most := l[0], l[0]
		for _, days := range l {
			least, most = lesser(least, days), greater(most, days)
		}
		return least, most
	}
	a, b := ends(all)
	c, d := ends(others)
	return slices.Equal(a, c) && slices.Equal(b, d)
}

// pairAgrees is that Between and Before tell of all days of two copies; it returns how many changes are possibly between them, and 1 if the first one was surely ended before.
func pairAgrees(t *testing.T, s api.Sheet, c, d api.Copied, all, others [][]int) (int, int) {
	t.Helper()
	end := len(s.Words) - 1
	surely, possibly := true, false
	between := map[int]int{}
	pairs := 0
	for _, a := range all {
		seen := before(s, a)
		for _, b := range others {
			pairs++
			ended := a[end] < b[0]
			surely, possibly = surely && ended, possibly || ended
			for _, id := range before(s, b) {
				if !slices.Contains(seen, id) {
					between[id]++
				}
			}
			if pairs == 20000 { // days beyond these are not tried
				return 0, 0
			}
		}
	}
	wantBefore(t, s, c, d, surely, possibly)
	some := idsOf(s, func(a api.Alter) bool { return between[a.ID] > 0 })
	wantBetween(t, s, c, d, idsOf(s, func(a api.Alter) bool { return between[a.ID] == pairs }), some)
	if surely {
		return len(some), 1
	}
	return len(some), 0
}
