package state_test

import (
	"math/rand"
	"reflect"
	"slices"
	"testing"

	"pecia/api"
	"pecia/state"
)

// notLess is whether no number of a list is less than that of another one.
func notLess(a, b []int) bool { return slices.Equal(greater(a, b), a) }

// TestEndsAgree is of P3.4 and P3.15, for sheets of all sizes: First and Last fit, and are proofs of each other's like.
func TestEndsAgree(t *testing.T) {
	r := rand.New(rand.NewSource(15))
	greatCases(200, func(s api.Sheet, c api.Copied, days []int) {
		first, last := firstOf(t, s, c), lastOf(t, s, c)
		for _, l := range [][]int{first, last, days} {
			line, is, e := state.Fits(s, c, l)
			if line != 0 || !is || e != api.OK {
				t.Error("P3.15: Fits", s, c, l, line, is, e)
			}
		}
		if !notLess(days, first) || !notLess(last, days) {
			t.Error("P3.15: days that fit are beyond First and Last:", s, c, days, first, last)
		}
		wantErr(t, "CheckFloors of First", state.CheckFloors(s, c, first), api.OK)
		wantErr(t, "CheckCeilings of Last", state.CheckCeilings(s, c, last), api.OK)
		lines := len(days)
		for n := 1; n <= lines; n++ {
			wantErr(t, "CheckFloors of the first lines", state.CheckFloors(s, c, first[:n]), api.OK)
		}
		for range 10 {
			floors := slices.Clone(first)
			i := r.Intn(lines)
			floors[i] += 1 + r.Intn(3)
			wantErr(t, "CheckFloors of a greater floor", state.CheckFloors(s, c, floors), api.ErrProof)
			ceilings := slices.Clone(last)
			ceilings[i] -= 1 + r.Intn(3)
			wantErr(t, "CheckCeilings of a lesser ceiling", state.CheckCeilings(s, c, ceilings), api.ErrProof)
			floors = slices.Clone(first)
			for range 1 + r.Intn(3) {
				i := r.Intn(lines)
				floors[i] = max(0, floors[i]-r.Intn(40))
			}
			if state.CheckFloors(s, c, floors) == api.OK && !notLess(days, floors) {
				t.Error("P3.15: days that fit are less than floors:", s, c, days, floors)
			}
		}
	})
}

// TestNoLesserDays is of P3.4 and P3.15, for sheets of all sizes: the earliest and the latest days are those to which one comes line by line.
func TestNoLesserDays(t *testing.T) {
	greatCases(60, func(s api.Sheet, c api.Copied, days []int) {
		open := openDays(s, c)
		lines := len(days)
		first := make([]int, lines)
		for i := range lines {
			at := slices.IndexFunc(open[i], func(day int) bool {
				return (i < 1 || day >= first[i-1]) && (i < c.PerDay || day > first[i-c.PerDay])
			})
			first[i] = open[i][at]
		}
		want(t, "First", firstOf(t, s, c), first)
		last := make([]int, lines)
		for i := lines - 1; i >= 0; i-- {
			for _, day := range open[i] {
				if (i+1 >= lines || day <= last[i+1]) && (i+c.PerDay >= lines || day < last[i+c.PerDay]) {
					last[i] = day
				}
			}
		}
		want(t, "Last", lastOf(t, s, c), last)
	})
}

// TestContradictions is of P3.6 and P3.16, for sheets of all sizes: with one wrong word there may be no days.
func TestContradictions(t *testing.T) {
	r := rand.New(rand.NewSource(16))
	never, fit := 0, 0
	greatCases(300, func(s api.Sheet, c api.Copied, days []int) {
		line := r.Intn(len(c.Words))
		if l := reads(s, line, r.Intn(api.MaxDay+1)); r.Intn(3) > 0 && len(l) > 0 {
			c.Words[line] = l[0] // as it was read on another day
		} else {
			c.Words[line] = r.Intn(5)
		}
		floors, is := clashOf(t, s, c)
		first, e := state.First(s, c)
		suspects, f := state.Suspects(s, c)
		wantErr(t, "Suspects", f, api.OK)
		if is != (e == api.ErrClash) || is == (e == api.OK) {
			t.Error("P3.16: Clash, First:", s, c, floors, is, e)
		}
		if !is {
			fit++
			if len(suspects)+len(floors) > 0 {
				t.Error("days fit:", s, c, first, suspects, floors)
			}
			return
		}
		never++
		wantErr(t, "P3.16: CheckClash of Clash", state.CheckClash(s, c, floors), api.OK)
		if len(floors) > 1 {
			fitsUpTo := api.Sheet{Words: s.Words[:len(floors)-1]}
			for _, a := range s.Alters {
				if a.From < len(fitsUpTo.Words) {
					a.To = min(a.To, len(fitsUpTo.Words)-1)
					fitsUpTo.Alters = append(fitsUpTo.Alters, a)
				}
			}
			c := cloneCopy(c)
			c.Words = c.Words[:len(floors)-1]
			firstOf(t, fitsUpTo, c) // the lines before the last floor can have been copied
		}
		for _, id := range suspects {
			firstOf(t, removed(s, id), c)
		}
	})
	if never < 50 || fit < 20 {
		t.Error("too few copies of a sort:", never, fit)
	}
}

// TestEachLine is of P3.7 and P3.17: a line can have been copied on just the days of When between First and Last.
func TestEachLine(t *testing.T) {
	gaps := 0
	greatCases(400, func(s api.Sheet, c api.Copied, days []int) {
		first, last := firstOf(t, s, c), lastOf(t, s, c)
		for line, word := range c.Words {
			all, e := state.When(s, line, word)
			wantErr(t, "When", e, api.OK)
			var on []int
			for _, x := range all {
				for day := max(x.Lo, first[line]); day <= min(x.Hi, last[line]); day++ {
					on = append(on, day)
				}
			}
			l, e := state.Possible(s, c, line)
			wantErr(t, "Possible", e, api.OK)
			want(t, "P3.17: Possible", l, spansOf(on))
			gaps += len(l) - 1
		}
	})
	if gaps < 20 {
		t.Error("too few gaps:", gaps)
	}
}

// TestLesserAndGreater is of P3.18.
func TestLesserAndGreater(t *testing.T) {
	r := rand.New(rand.NewSource(18))
	others := 0
	someCases(1500, func(s api.Sheet, c, d api.Copied) {
		all := fits(s, c)
		if len(all) < 2 {
			return
		}
		for range 10 {
			a, b := all[r.Intn(len(all))], all[r.Intn(len(all))]
			for _, days := range [][]int{a, lesser(a, b), greater(a, b)} {
				line, is, e := state.Fits(s, c, days)
				if line != 0 || !is || e != api.OK {
					t.Error("P3.18: Fits", s, c, a, b, days, line, is, e)
				}
			}
			if !notLess(a, b) && !notLess(b, a) {
				others++
			}
		}
	})
	if others < 100 {
		t.Error("too few days that cross each other:", others)
	}
}

// TestNarrower is of P3.19.
func TestNarrower(t *testing.T) {
	r := rand.New(rand.NewSource(19))
	clashes := 0
	greatCases(200, func(s api.Sheet, c api.Copied, days []int) {
		first, last := firstOf(t, s, c), lastOf(t, s, c)
		narrower := cloneCopy(c)
		switch r.Intn(4) {
		case 0:
			narrower.Begin = c.Begin + r.Intn(c.End-c.Begin+1)
		case 1:
			narrower.End = c.End - r.Intn(c.End-c.Begin+1)
		case 2:
			narrower.PerDay = 1 + r.Intn(c.PerDay)
		case 3:
			narrower.Begin, narrower.End = first[0], last[len(last)-1]
		}
		less, e := state.First(s, narrower)
		more, f := state.Last(s, narrower)
		wantErr(t, "First, Last", e, f)
		if e != api.OK {
			clashes++
			check(t, "First", e, api.ErrClash, len(less)+len(more) > 0)
			return
		}
		if !notLess(less, first) || !notLess(last, more) {
			t.Error("P3.19: First, Last", s, c, narrower, first, less, last, more)
		}
		for _, l := range [][]int{days, less, more} {
			_, is, e := state.Fits(s, c, l)
			_, narrowly, f := state.Fits(s, narrower, l)
			if e != api.OK || f != api.OK || narrowly && !is {
				t.Error("P3.19: Fits", s, c, narrower, l)
			}
		}
	})
	if clashes < 10 {
		t.Error("too few contradictions:", clashes)
	}
}

// TestTrueCopies is of P3.20: what is told of a copy that was truly made is true of its days.
func TestTrueCopies(t *testing.T) {
	surelies := 0
	greatCases(200, func(s api.Sheet, c api.Copied, days []int) {
		end := len(days) - 1
		if !notLess(days, firstOf(t, s, c)) || !notLess(lastOf(t, s, c), days) {
			t.Error("P3.20: First, Last", s, c, days)
		}
		for line, day := range days {
			l, e := state.Possible(s, c, line)
			if e != api.OK || !slices.ContainsFunc(l, func(x api.Span) bool { return x.Lo <= day && day <= x.Hi }) {
				t.Error("P3.20: Possible", s, c, days, line, l, e)
			}
		}
		long, e := state.Long(s, c)
		if e != api.OK || days[end]-days[0] < long.Lo || days[end]-days[0] > long.Hi {
			t.Error("P3.20: Long", s, c, days, long, e)
		}
		surely, possibly, e := state.Seen(s, c)
		wantErr(t, "Seen", e, api.OK)
		truly := before(s, days)
		for _, id := range surely {
			if !slices.Contains(truly, id) {
				t.Error("P3.20: a change that surely was before was not:", s, c, days, id)
			}
		}
		for _, id := range truly {
			if !slices.Contains(possibly, id) {
				t.Error("P3.20: a change was before, but not possibly:", s, c, days, id)
			}
		}
		surelies += len(surely)
		_, is := clashOf(t, s, c)
		want(t, "Clash", is, false)
		wantSuspects(t, s, c)
		sources, e := state.Sources([]api.Sheet{s}, c)
		wantErr(t, "Sources", e, api.OK)
		want(t, "Sources", sources, []int{0})
	})
	if surelies < 200 {
		t.Error("too few changes:", surelies)
	}
}

// TestTrueRests is of P3.9, for sheets of all sizes: Rests tells just the changes without which First or Last is another one.
func TestTrueRests(t *testing.T) {
	rests := 0
	greatCases(40, func(s api.Sheet, c api.Copied, days []int) {
		first, last := firstOf(t, s, c), lastOf(t, s, c)
		should := idsOf(s, func(a api.Alter) bool {
			less := removed(s, a.ID)
			f, e := state.First(less, c)
			l, _ := state.Last(less, c)
			return e != api.OK || !slices.Equal(f, first) || !slices.Equal(l, last)
		})
		wantRests(t, s, c, should...)
		rests += len(should)
	})
	if rests < 40 {
		t.Error("too few changes:", rests)
	}
}

// TestOrdersAgree is of P3.21.
func TestOrdersAgree(t *testing.T) {
	surely, between := 0, 0
	someCases(2500, func(s api.Sheet, c, d api.Copied) {
		if len(fits(s, c)) == 0 || len(fits(s, d)) == 0 {
			return
		}
		sure, may, e := state.Before(s, c, d)
		back, mayBack, f := state.Before(s, d, c)
		if e != api.OK || f != api.OK || sure && !may || back && !mayBack || sure && back || sure && mayBack {
			t.Error("P3.21: Before", s, c, d, sure, may, back, mayBack)
		}
		all, some, e := state.Between(s, c, d)
		wantErr(t, "Between", e, api.OK)
		other, _, e := state.Between(s, d, c)
		wantErr(t, "Between", e, api.OK)
		for _, id := range all {
			if !slices.Contains(some, id) {
				t.Error("a change is surely between, but not possibly:", s, c, d, id)
			}
			if slices.Contains(other, id) {
				t.Error("P3.21: a change is surely between, both ways round:", s, c, d, id)
			}
		}
		if sure && len(other) > 0 {
			t.Error("P3.21: a change surely lies between the other way round:", s, c, d, other)
		}
		between += len(all)
		if sure {
			surely++
		}
	})
	if surely < 30 || between < 30 {
		t.Error("too few of a sort:", surely, between)
	}
}

// results is what all functions tell of a sheet and two copies, as values that own their memory.
func results(s api.Sheet, c, d, wrong api.Copied, l []api.Sheet, ids []int) []any {
	words, _ := state.Reads(s, 1, 10)
	spans, _ := state.When(s, 1, 22)
	first, _ := state.First(s, c)
	last, _ := state.Last(s, c)
	clash, _, _ := state.Clash(s, wrong)
	possible, _ := state.Possible(s, c, 1)
	surely, possibly, _ := state.Seen(s, c)
	all, some, _ := state.Between(s, d, c)
	suspects, _ := state.Suspects(s, copied(35, 100, 2, 11, 12, 33, 14))
	rests, _ := state.Rests(s, c)
	sources, _ := state.Sources(l, c)
	from, days, _, _ := state.Mixed(l, c)
	more, _ := state.Add(s, erase(9, 15, 0, 5))
	same, _ := state.Without(s, nil)
	less, _ := state.Without(s, ids)
	state.Fits(s, c, first)
	state.CheckFloors(s, c, first)
	state.CheckCeilings(s, c, last)
	state.CheckClash(s, wrong, clash)
	state.CheckMixed(l, c, from, days)
	state.Long(s, c)
	state.Before(s, d, c)
	return []any{words, spans, first, last, clash, possible, surely, possibly, all, some, suspects, rests, sources, from, days, more, same, less}
}

// TestMemory is of R6 and R7: arguments stay as they are, results share no memory, and the same call has the same result.
func TestMemory(t *testing.T) {
	s, c, d, wrong := example(), exampleCopy(), copied(0, 5, 2, 11, 12, 13, 14), copied(0, 100, 2, 0, 12, 13, 14)
	s.Alters = slices.Grow(s.Alters, 9) // room for further changes is not to be used
	l, ids := []api.Sheet{cloneSheet(s), cloneSheet(s)}, []int{3, 1}
	should := results(s, c, d, wrong, l, ids)
	again := results(s, c, d, wrong, l, ids)
	want(t, "the same calls", again, should)
	owned := slicesOf(reflect.ValueOf(again))
	if len(owned) != 3*2+15 {
		t.Error("results:", len(owned))
	}
	for i, v := range owned {
		fill(v, 1000+i)
	}
	for i, v := range owned {
		if !isFilled(v, 1000+i) {
			t.Error("results share memory:", v)
		}
	}
	for _, x := range append(slices.Clone(l), s) {
		wantSheet(t, "a sheet", x, example())
	}
	want(t, "room behind the changes", s.Alters[:5][4], api.Alter{})
	want(t, "the first copy", c, exampleCopy())
	want(t, "the second copy", d, copied(0, 5, 2, 11, 12, 13, 14))
	want(t, "the wrong copy", wrong, copied(0, 100, 2, 0, 12, 13, 14))
	want(t, "the IDs", ids, []int{3, 1})
	want(t, "the results", results(s, c, d, wrong, l, ids), should)
}

// TestProofsAreNotChanged is of R6: days, floors, ceilings and sources stay as they are, also beyond the days.
func TestProofsAreNotChanged(t *testing.T) {
	s, c := example(), exampleCopy()
	for _, l := range [][]int{{0, 10, 20, 20}, {-5, 1 << 62, 3, -1 << 63}, {29, 38, 39, 39}} {
		days, from := slices.Clone(l), []int{1, 0, 1, 0}
		state.Fits(s, c, days)
		state.CheckFloors(s, c, days)
		state.CheckCeilings(s, c, days)
		state.CheckClash(s, c, days)
		state.CheckMixed([]api.Sheet{s, s}, c, from, days)
		want(t, "days", days, l)
		want(t, "sources", from, []int{1, 0, 1, 0})
	}
}

// slicesOf is all slices within a value that have elements, but for those of slices.
func slicesOf(v reflect.Value) []reflect.Value {
	var l []reflect.Value
	switch v.Kind() {
	case reflect.Interface:
		return slicesOf(v.Elem())
	case reflect.Slice:
		if k := v.Type().Elem().Kind(); (k == reflect.Int || k == reflect.Struct) && v.Len() > 0 {
			l = append(l, v)
		}
		for i := range v.Len() {
			l = append(l, slicesOf(v.Index(i))...)
		}
	case reflect.Struct:
		for i := range v.NumField() {
			l = append(l, slicesOf(v.Field(i))...)
		}
	}
	return l
}

// fill sets what a slice has, and what it has room for besides, to a number, or to structs that begin with it.
func fill(v reflect.Value, n int) {
	for i := range v.Cap() {
		numberOf(v.Slice(0, v.Cap()).Index(i)).SetInt(int64(n))
	}
}

func isFilled(v reflect.Value, n int) bool {
	for i := range v.Len() {
		if numberOf(v.Index(i)).Int() != int64(n) {
			return false
		}
	}
	return true
}

func numberOf(v reflect.Value) reflect.Value {
	if v.Kind() == reflect.Struct {
		return v.Field(0)
	}
	return v
}
