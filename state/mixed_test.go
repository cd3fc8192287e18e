package state_test

import (
	"math"
	"math/rand"
	"slices"
	"testing"

	"pecia/api"
	"pecia/state"
)

// mixExample is the sheets of the chapter's example of mixed copies, and the copy.
func mixExample() ([]api.Sheet, api.Copied) {
	return []api.Sheet{example(), sheet([]int{1, 2, 3, 4})}, copied(0, 100, 1, 1, 2, 33, 14)
}

// sourcesOf is how many changes of sheets sources for the lines have, or -1 if they are none.
func sourcesOf(l []api.Sheet, c api.Copied, from, days []int) int {
	changes := 0
	for i, day := range days {
		if day < c.Begin || day > c.End || i > 0 && day < days[i-1] || !canCopy(l[from[i]], i, c.Words[i], day) {
			return -1
		}
		if i > 0 && from[i] != from[i-1] {
			changes++
		}
	}
	return changes
}

// fewestChanges is how many changes of sheets a copy has at least, or -1 if it cannot have been made.
func fewestChanges(l []api.Sheet, c api.Copied) int {
	const never = math.MaxInt / 2
	// By sheets and days: how many changes there are at least if the last line is copied so.
	var before [][]int
	for line, word := range c.Words {
		now := make([][]int, len(l))
		for i, s := range l {
			now[i] = numbers(c.End+1, never)
			for day := c.Begin; day <= c.End; day++ {
				if !canCopy(s, line, word, day) {
					continue
				}
				if line == 0 {
					now[i][day] = 0
					continue
				}
				for k := range l {
					for earlier := c.Begin; earlier <= day; earlier++ {
						n := before[k][earlier]
						if k != i {
							n++
						}
						now[i][day] = min(now[i][day], n)
					}
				}
			}
		}
		before = now
	}
	least := never
	for i := range l {
		least = min(least, slices.Min(before[i]))
	}
	if least >= never {
		return -1
	}
	return least
}

// wantMixed is that a copy has so many changes of sheets at least, -1 if it cannot have been made.
func wantMixed(t *testing.T, l []api.Sheet, c api.Copied, changes int) {
	t.Helper()
	from, days, n, e := state.Mixed(l, c)
	if changes < 0 {
		check(t, "Mixed", e, api.ErrClash, len(from)+len(days) > 0 || n != 0)
		return
	}
	wantErr(t, "Mixed", e, api.OK)
	if n != changes || len(from) != len(c.Words) || len(days) != len(c.Words) || sourcesOf(l, c, from, days) != changes {
		t.Error("Mixed", l, c, from, days, n, changes)
		return
	}
	n, e = state.CheckMixed(l, c, from, days)
	wantErr(t, "CheckMixed of Mixed", e, api.OK)
	want(t, "CheckMixed of Mixed", n, changes)
}

// TestMixed is of P3.13.
func TestMixed(t *testing.T) {
	l, c := mixExample()
	wantMixed(t, l, c, 1)
	wantMixed(t, l[:1], c, -1)
	wantMixed(t, l[:1], exampleCopy(), 0)
	wantMixed(t, l, copied(0, 100, 1, 11, 22, 33, 14), 0)
	wantMixed(t, l, copied(0, 100, 1, 11, 2, 33, 4), 3)
	wantMixed(t, l, copied(0, 100, 1, 1, 12, 3, 14), 3)
	wantMixed(t, l, copied(0, 100, 1, 1, 12, 13, 4), 2)
	wantMixed(t, l, copied(40, 100, 1, 1, 2, 33, 0), 1)
	wantMixed(t, l, copied(40, 100, 1, 1, 2, 33, 14), -1)
	wantMixed(t, l, copied(0, 0, 1, 11, 12, 13, 14), 0) // how many lines a day does not matter
	wantMixed(t, l, copied(0, 0, 1, 11, 2, 13, 14), 2)
	wantMixed(t, l, copied(0, api.MaxDay, 1, 1, 2, 3, 0), 1)
	wantMixed(t, l, copied(api.MaxDay, api.MaxDay, 1, 0, 2, 3, 0), 2)
	wantMixed(t, []api.Sheet{sheet([]int{5})}, copied(0, 0, 1, 5), 0)
	wantMixed(t, []api.Sheet{sheet([]int{5})}, copied(0, 0, 1, 6), -1)
	wantMixed(t, []api.Sheet{sheet([]int{6}), sheet([]int{5})}, copied(0, 0, 1, 5), 0)
	// To stay is later here, which is too late for 3, and in time for 4.
	stay, other := sheet([]int{1, 9, 3}, erase(1, 11, 2, 4), erase(2, 50, 1, 2)), sheet([]int{8, 2, 8})
	wantMixed(t, []api.Sheet{stay, other}, copied(0, 100, 1, 1, 2, 3), 2)
	wantMixed(t, []api.Sheet{stay, other}, copied(0, 100, 1, 1, 2, 4), 0)
	wantMixed(t, []api.Sheet{stay, other}, copied(0, 49, 1, 1, 2, 4), 2)
	wantMixed(t, []api.Sheet{stay, other}, copied(11, 49, 1, 1, 2, 3), -1)
	first := sheet([]int{9, 9, 3}, erase(1, 50, 0, 1), erase(2, 50, 1, 2), wear(3, 60, 2, 2))
	second := sheet([]int{1, 8, 8}, wear(1, 5, 0, 0))
	third := sheet([]int{8, 2, 7}, wear(1, 5, 1, 1), wear(2, 40, 2, 2))
	wantMixed(t, []api.Sheet{first, second, third}, copied(0, 100, 1, 1, 2, 3), 0)
	wantMixed(t, []api.Sheet{first, second, third}, copied(0, 100, 1, 1, 2, 7), 1)
	wantMixed(t, []api.Sheet{first, second, third}, copied(0, 49, 1, 1, 2, 3), 2)
	wantMixed(t, []api.Sheet{first, second, third}, copied(6, 49, 1, 1, 2, 3), -1)
	most := make([]api.Sheet, api.MaxSheets)
	var words []int
	for line := range api.MaxLines {
		for i := range most {
			most[i].Words = append(most[i].Words, 1+i)
		}
		words = append(words, 1+line%api.MaxSheets)
	}
	wantMixed(t, most, copied(0, 0, 1, words...), api.MaxLines-1)
	wantMixed(t, most, copied(0, api.MaxDay, 40, numbers(api.MaxLines, api.MaxSheets)...), 0)
	wantMixed(t, most, copied(0, api.MaxDay, 40, numbers(api.MaxLines, 9)...), -1)
}

// TestCheckMixed is of P3.13.
func TestCheckMixed(t *testing.T) {
	l, c := mixExample()
	for _, x := range []struct {
		from, days []int
		changes    int
		e          api.Errno
	}{
		{[]int{1, 1, 0, 0}, []int{0, 0, 20, 20}, 1, api.OK},
		{[]int{1, 1, 0, 0}, []int{20, 20, 20, 20}, 1, api.OK}, // more lines than PerDay
		{[]int{1, 1, 0, 0}, []int{0, 30, 35, 39}, 1, api.OK},
		{[]int{1, 1, 0, 0}, []int{1, 0, 20, 20}, 0, api.ErrProof},
		{[]int{1, 1, 0, 0}, []int{0, 0, 21, 20}, 0, api.ErrProof},
		{[]int{1, 1, 0, 0}, []int{-1, 0, 20, 20}, 0, api.ErrProof},
		{[]int{1, 1, 0, 0}, []int{0, 0, 19, 20}, 0, api.ErrProof},
		{[]int{1, 1, 0, 0}, []int{0, 0, 20, 40}, 0, api.ErrProof},
		{[]int{1, 1, 0, 0}, []int{math.MinInt, 0, 20, math.MaxInt}, 0, api.ErrProof},
		{[]int{1, 0, 0, 0}, []int{0, 0, 20, 20}, 0, api.ErrProof},
		{[]int{1, 1, 0, 1}, []int{0, 0, 20, 20}, 0, api.ErrProof},
		{[]int{0, 0, 0, 0}, []int{0, 0, 0, 0}, 0, api.ErrProof},
		{[]int{1, 1, 0, 2}, []int{0, 0, 20, 20}, 0, api.ErrArg},
		{[]int{-1, 1, 0, 0}, []int{0, 0, 20, 20}, 0, api.ErrArg},
		{[]int{1, 1, 0, math.MaxInt}, []int{-1, 0, 20, 20}, 0, api.ErrArg}, // looked for ahead of the days
		{[]int{0, 1, 0, -1}, []int{0, 0, 20, 20}, 0, api.ErrArg},
		{[]int{1, 1, 0}, []int{0, 0, 20, 20}, 0, api.ErrArg},
		{[]int{1, 1, 0, 0}, []int{0, 0, 20}, 0, api.ErrArg},
		{[]int{1, 1, 0, 0, 0}, []int{0, 0, 20, 20}, 0, api.ErrArg},
		{[]int{1, 1, 0, 0}, []int{0, 0, 20, 20, 20}, 0, api.ErrArg},
		{[]int{1, 1, 0}, []int{0, 0, 20}, 0, api.ErrArg},
		{nil, nil, 0, api.ErrArg},
	} {
		n, e := state.CheckMixed(l, c, x.from, x.days)
		if n != x.changes || e != x.e {
			t.Error("CheckMixed", x.from, x.days, n, e)
		}
	}
	same := []api.Sheet{example(), example()}
	days := []int{0, 10, 20, 20}
	for changes, from := range [][]int{{1, 1, 1, 1}, {1, 1, 0, 0}, {0, 1, 1, 0}, {0, 1, 0, 1}} {
		n, e := state.CheckMixed(same, exampleCopy(), from, days)
		if n != changes || e != api.OK {
			t.Error("CheckMixed of like sheets", from, n, e)
		}
	}
	early := exampleCopy()
	early.Begin, early.End = 1, 50
	n, e := state.CheckMixed(same, early, numbers(4, 0), days)
	check(t, "CheckMixed ahead of Begin", e, api.ErrProof, n != 0)
	early.Begin, early.End = 0, 19
	n, e = state.CheckMixed(same, early, numbers(4, 0), days)
	check(t, "CheckMixed behind End", e, api.ErrProof, n != 0)
}

// TestMixedErrors is of P3.13: there must be sheets, and the copy valid for all of them.
func TestMixedErrors(t *testing.T) {
	l, c := mixExample()
	for what, x := range map[string]struct {
		l []api.Sheet
		c api.Copied
	}{
		"no sheets":               {nil, c},
		"nothing":                 {nil, api.Copied{}},
		"one sheet has less":      {[]api.Sheet{l[0], l[1], sheet([]int{1, 2, 3})}, c},
		"one sheet has more":      {[]api.Sheet{sheet([]int{1, 2, 3, 4, 5}), l[0], l[1]}, c},
		"no days":                 {l, copied(5, 4, 1, 1, 2, 33, 14)},
		"no lines a day":          {l, copied(0, 100, 0, 1, 2, 33, 14)},
		"too many lines a day":    {l, copied(0, 100, api.MaxPerDay+1, 1, 2, 33, 14)},
		"no sources, and invalid": {l, copied(0, 100, 0, 9, 9, 9, 9)},
	} {
		from, days, n, e := state.Mixed(x.l, x.c)
		check(t, "Mixed: "+what, e, api.ErrArg, len(from)+len(days) > 0 || n != 0)
		n, e = state.CheckMixed(x.l, x.c, []int{1, 1, 0, 0}, []int{0, 0, 20, 20})
		check(t, "CheckMixed: "+what, e, api.ErrArg, n != 0)
	}
	for what, copies := range wrongCopies() {
		from, days, n, e := state.Mixed(l, copies)
		check(t, "Mixed: "+what, e, api.ErrArg, len(from)+len(days) > 0 || n != 0)
	}
}

// someMixes calls do with sheets of as many lines, and a copy whose lines come from them, always the same ones.
func someMixes(n, lines, last int, do func(l []api.Sheet, c api.Copied)) {
	r := rand.New(rand.NewSource(int64(n*100 + lines)))
	for range n {
		var l []api.Sheet
		lines := 1 + r.Intn(lines)
		for range 1 + r.Intn(5) {
			l = append(l, someSheet(r, lines, r.Intn(8), 4, last))
		}
		begin := r.Intn(last + 1)
		c := copied(begin, begin+r.Intn(last-begin+1), 1+r.Intn(2))
		days := someDays(r, lines, c.Begin, c.End, lines)
		from := r.Intn(len(l))
		for i, day := range days {
			if r.Intn(2) == 0 {
				from = r.Intn(len(l))
			}
			words := append(reads(l[from], i, day), 0)
			c.Words = append(c.Words, words[0])
			if r.Intn(30) == 0 {
				c.Words[i] = 1 + r.Intn(4)
			}
		}
		do(l, c)
	}
}

// TestMixedAgree is of P3.13 and P3.22, by trying all sheets and days for each line.
func TestMixedAgree(t *testing.T) {
	seen := map[int]int{}
	do := func(l []api.Sheet, c api.Copied) {
		changes := fewestChanges(l, c)
		wantMixed(t, l, c, changes)
		seen[changes]++
		c.PerDay = api.MaxPerDay
		sources, e := state.Sources(l, c)
		wantErr(t, "Sources", e, api.OK)
		if (changes == 0) != (len(sources) > 0) {
			t.Error("P3.22: no changes, and sources:", l, c, changes, sources)
		}
	}
	someMixes(2000, 6, 7, do)
	someMixes(100, 15, 15, do)
	someMixes(30, api.MaxLines, 30, do)
	for changes := -1; changes <= 3; changes++ {
		if seen[changes] < 20 {
			t.Error("too few copies of a sort:", seen)
		}
	}
}

// TestFurtherSheets is of P3.22: with a further sheet there are no more changes, and no sources have fewer.
func TestFurtherSheets(t *testing.T) {
	r := rand.New(rand.NewSource(22))
	fewer, accepted := 0, 0
	someMixes(1500, 6, 9, func(l []api.Sheet, c api.Copied) {
		_, _, n, e := state.Mixed(l, c)
		further := append(slices.Clone(l), someSheet(r, len(c.Words), 4, 4, 9))
		_, _, m, f := state.Mixed(further, c)
		if e == api.OK && (f != api.OK || m > n) {
			t.Error("with a further sheet:", further, c, n, e, m, f)
		}
		if f == api.OK && (e != api.OK || m < n) {
			fewer++
		}
		for range 20 {
			from, days := make([]int, len(c.Words)), make([]int, len(c.Words))
			for i := range from {
				from[i], days[i] = r.Intn(len(l)), c.Begin+r.Intn(c.End-c.Begin+1)
			}
			slices.Sort(days)
			should := sourcesOf(l, c, from, days)
			k, g := state.CheckMixed(l, c, from, days)
			if should < 0 {
				check(t, "CheckMixed", g, api.ErrProof, k != 0)
				continue
			}
			accepted++
			if g != api.OK || k != should || e != api.OK || k < n {
				t.Error("CheckMixed", l, c, from, days, k, g, n, e)
			}
		}
	})
	if fewer < 20 || accepted < 300 {
		t.Error("too few of a sort:", fewer, accepted)
	}
}
