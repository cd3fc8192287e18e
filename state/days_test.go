package state_test

import (
	"math"
	"math/rand"
	"slices"
	"testing"

	"pecia/api"
	"pecia/state"
)

// TestExamples is of P3.4, P3.7 and P3.8, by the examples of the chapter.
func TestExamples(t *testing.T) {
	s, c := example(), exampleCopy()
	want(t, "First", firstOf(t, s, c), []int{0, 10, 20, 20})
	want(t, "Last", lastOf(t, s, c), []int{29, 38, 39, 39})
	for line, should := range []api.Span{span(0, 29), span(10, 38), span(20, 39), span(20, 39)} {
		l, e := state.Possible(s, c, line)
		wantErr(t, "Possible", e, api.OK)
		want(t, "Possible", l, []api.Span{should})
	}
	long, e := state.Long(s, c)
	wantErr(t, "Long", e, api.OK)
	want(t, "Long", long, span(1, 39))
	surely, possibly, e := state.Seen(s, c)
	wantErr(t, "Seen", e, api.OK)
	want(t, "Seen surely", surely, []int{1, 2})
	want(t, "Seen possibly", possibly, []int{1, 2, 3})
}

// TestExampleOfTheWhole is of P3.4, by the example of the whole document.
func TestExampleOfTheWhole(t *testing.T) {
	s := sheet([]int{12}, inMargin(1, 10, 0, 22), wear(2, 30, 0, 0))
	want(t, "First with 22", firstOf(t, s, copied(0, 100, 1, 22)), []int{10})
	want(t, "Last with 22", lastOf(t, s, copied(0, 100, 1, 22)), []int{100})
	want(t, "First with 12", firstOf(t, s, copied(0, 100, 1, 12)), []int{0})
	want(t, "Last with 12", lastOf(t, s, copied(0, 100, 1, 12)), []int{29})
}

// TestFits is of P3.3.
func TestFits(t *testing.T) {
	s := example()
	for _, x := range []struct {
		c    api.Copied
		days []int
		line int
		is   bool
	}{
		{exampleCopy(), []int{0, 10, 20, 20}, 0, true},
		{exampleCopy(), []int{29, 38, 39, 39}, 0, true},
		{exampleCopy(), []int{-1, 10, 20, 20}, 0, false},
		{exampleCopy(), []int{30, 30, 31, 31}, 0, false},
		{exampleCopy(), []int{29, 28, 31, 31}, 1, false},
		{exampleCopy(), []int{0, 9, 20, 20}, 1, false},
		{exampleCopy(), []int{0, 10, 19, 20}, 2, false},
		{exampleCopy(), []int{20, 20, 20, 20}, 2, false},
		{exampleCopy(), []int{19, 20, 20, 20}, 3, false},
		{exampleCopy(), []int{0, 10, 20, 40}, 3, false},
		{exampleCopy(), []int{0, 10, 20, 19}, 3, false},
		{exampleCopy(), []int{0, 10, 20, 101}, 3, false},
		{exampleCopy(), []int{0, 10, 20, math.MaxInt}, 3, false},
		{exampleCopy(), []int{math.MinInt, 10, 20, 20}, 0, false},
		{exampleCopy(), []int{math.MaxInt, math.MinInt, math.MaxInt, math.MinInt}, 0, false},
		{exampleCopy(), []int{0, math.MaxInt, math.MinInt, 20}, 1, false},
		{copied(5, 38, 4, 11, 22, 33, 14), []int{10, 20, 30, 38}, 0, true},
		{copied(5, 38, 4, 11, 22, 33, 14), []int{20, 20, 20, 20}, 0, true},
		{copied(5, 38, 4, 11, 22, 33, 14), []int{4, 20, 20, 20}, 0, false},
		{copied(5, 38, 4, 11, 22, 33, 14), []int{5, 20, 20, 39}, 3, false},
		{copied(0, 100, 3, 11, 22, 33, 14), []int{20, 20, 20, 20}, 3, false},
		{copied(0, 100, 3, 11, 22, 33, 14), []int{20, 20, 20, 21}, 0, true},
		{copied(0, 100, 1, 11, 22, 33, 14), []int{10, 11, 20, 21}, 0, true},
		{copied(0, 100, 1, 11, 22, 33, 14), []int{10, 11, 21, 21}, 3, false},
		{copied(0, api.MaxDay, 4, 11, 22, 33, 0), []int{0, 10, 20, api.MaxDay}, 0, true},
		{copied(0, api.MaxDay, 4, 11, 22, 33, 0), []int{0, 10, 20, api.MaxDay + 1}, 3, false},
	} {
		line, is, e := state.Fits(s, x.c, x.days)
		if line != x.line || is != x.is || e != api.OK {
			t.Error("Fits", x.c, x.days, line, is, e)
		}
	}
	for _, days := range [][]int{nil, {0, 10, 20}, {0, 10, 20, 20, 20}} {
		line, is, e := state.Fits(s, exampleCopy(), days)
		check(t, "Fits", e, api.ErrArg, line != 0 || is)
	}
}

// TestFitsAgree is of P3.3, for many days.
func TestFitsAgree(t *testing.T) {
	r := rand.New(rand.NewSource(3))
	some := 0
	someCases(1000, func(s api.Sheet, c, d api.Copied) {
		for range 5 {
			days := make([]int, len(c.Words))
			for i := range days {
				days[i] = c.Begin - 1 + r.Intn(c.End-c.Begin+3)
			}
			if r.Intn(4) > 0 {
				slices.Sort(days)
			}
			should := misfit(s, c, days)
			line, is, e := state.Fits(s, c, days)
			if e != api.OK || is != (should < 0) || line != max(should, 0) {
				t.Error("Fits", s, c, days, line, is, e)
			}
			some += min(1, should+1)
		}
	})
	if some < 1000 || some > 4700 {
		t.Error("too few days of a sort:", some)
	}
}

// TestDaysAgree is of P3.4, P3.6, P3.7 and P3.16, by trying all days of small copies.
func TestDaysAgree(t *testing.T) {
	fit, never := 0, 0
	someCases(1500, func(s api.Sheet, c, d api.Copied) {
		all := fits(s, c)
		first, e := state.First(s, c)
		last, f := state.Last(s, c)
		floors, is := clashOf(t, s, c)
		if len(all) == 0 {
			never++
			check(t, "First", e, api.ErrClash, len(first) > 0)
			check(t, "Last", f, api.ErrClash, len(last) > 0)
			want(t, "Clash", is, true)
			clashAgrees(t, s, c, floors)
			return
		}
		fit++
		if is || len(floors) > 0 {
			t.Error("Clash of days that fit", s, c, floors)
		}
		wantErr(t, "First", e, api.OK)
		wantErr(t, "Last", f, api.OK)
		least, most := all[0], all[0]
		on := make([][]int, len(c.Words))
		for _, days := range all {
			least, most = lesser(least, days), greater(most, days)
			for line, day := range days {
				on[line] = append(on[line], day)
			}
		}
		want(t, "First", first, least)
		want(t, "Last", last, most)
		for line, days := range on {
			slices.Sort(days)
			l, e := state.Possible(s, c, line)
			wantErr(t, "Possible", e, api.OK)
			want(t, "Possible", l, spansOf(slices.Compact(days)))
		}
		longAgrees(t, s, c, all)
	})
	if fit < 200 || never < 200 {
		t.Error("too few copies of a sort:", fit, never)
	}
}

// clashAgrees is that floors show that a copy cannot have been made, for as few lines as possible.
func clashAgrees(t *testing.T, s api.Sheet, c api.Copied, floors []int) {
	t.Helper()
	if len(floors) < 1 || len(floors) > len(c.Words) || floors[len(floors)-1] <= c.End || !floorsHold(s, c, floors) {
		t.Error("Clash", s, c, floors)
		return
	}
	wantErr(t, "CheckClash of Clash", state.CheckClash(s, c, floors), api.OK)
	if len(allFits(s, c, len(floors)-1)) == 0 {
		t.Error("Clash: fewer lines would do:", s, c, floors)
	}
}

// longAgrees is that Long tells of all days that fit.
func longAgrees(t *testing.T, s api.Sheet, c api.Copied, all [][]int) {
	t.Helper()
	end := len(c.Words) - 1
	should := span(math.MaxInt, 0)
	for _, days := range all {
		should = span(min(should.Lo, days[end]-days[0]), max(should.Hi, days[end]-days[0]))
	}
	long, e := state.Long(s, c)
	wantErr(t, "Long", e, api.OK)
	want(t, "Long", long, should)
}

// TestLongAgrees is of P3.7, by trying all days of copies of few lines that change often.
func TestLongAgrees(t *testing.T) {
	r := rand.New(rand.NewSource(7))
	longer := 0
	for range 1000 {
		s := someSheet(r, 2+r.Intn(2), 14, 4, 18)
		c := someCopy(r, s, 4, 20)
		if all := fits(s, c); len(all) > 0 {
			longAgrees(t, s, c, all)
			if long, _ := state.Long(s, c); long.Lo > (len(s.Words)-1)/c.PerDay {
				longer++
			}
		}
	}
	if longer < 40 {
		t.Error("too few copies that cannot be made at once:", longer)
	}
}

// TestNever is of P3.4, P3.7, P3.8 and P3.9: a copy that cannot have been made has no days.
func TestNever(t *testing.T) {
	s, right := example(), exampleCopy()
	for what, c := range map[string]api.Copied{
		"nothing where there is something": copied(0, 100, 2, 0, 12, 13, 14),
		"a word that was never there":      copied(0, 100, 2, 11, 22, 33, 15),
		"lost too late":                    copied(0, 39, 2, 11, 22, 33, 0),
		"too few lines a day":              copied(0, 2, 1, 11, 12, 13, 14),
		"too late":                         copied(35, 100, 2, 11, 12, 33, 14),
		"too early":                        copied(0, 9, 2, 11, 22, 13, 14),
	} {
		first, e := state.First(s, c)
		check(t, "First: "+what, e, api.ErrClash, len(first) > 0)
		last, e := state.Last(s, c)
		check(t, "Last: "+what, e, api.ErrClash, len(last) > 0)
		for line := range s.Words {
			l, e := state.Possible(s, c, line)
			check(t, "Possible: "+what, e, api.ErrClash, len(l) > 0)
		}
		long, e := state.Long(s, c)
		check(t, "Long: "+what, e, api.ErrClash, long != api.Span{})
		surely, possibly, e := state.Seen(s, c)
		check(t, "Seen: "+what, e, api.ErrClash, len(surely)+len(possibly) > 0)
		rests, e := state.Rests(s, c)
		check(t, "Rests: "+what, e, api.ErrClash, len(rests) > 0)
		for name, f := range twoCopyCalls() {
			for _, x := range [][]api.Copied{{c, right}, {right, c}, {c, c}} {
				e, more := f(s, x[0], x[1], 0)
				check(t, name+": "+what, e, api.ErrClash, more)
			}
		}
		floors, is := clashOf(t, s, c)
		want(t, "Clash: "+what, is, true)
		clashAgrees(t, s, c, floors)
	}
}

// TestOneLine is of P3.4 and P3.7: of one line the first day is the last one.
func TestOneLine(t *testing.T) {
	s := sheet([]int{1}, erase(1, 5, 0, 2), erase(2, 10, 0, 1), erase(3, 15, 0, 2), erase(4, api.MaxDay, 0, 1))
	c := copied(3, api.MaxDay, 1, 1)
	want(t, "First", firstOf(t, s, c), []int{3})
	want(t, "Last", lastOf(t, s, c), []int{api.MaxDay})
	l, e := state.Possible(s, c, 0)
	wantErr(t, "Possible", e, api.OK)
	want(t, "Possible", l, []api.Span{span(3, 4), span(10, 14), span(api.MaxDay, api.MaxDay)})
	long, e := state.Long(s, c)
	wantErr(t, "Long", e, api.OK)
	want(t, "Long", long, span(0, 0))
	c.Begin, c.End = 12, 12
	want(t, "First of one day", firstOf(t, s, c), []int{12})
	want(t, "Last of one day", lastOf(t, s, c), []int{12})
	l, e = state.Possible(s, c, 0)
	wantErr(t, "Possible", e, api.OK)
	want(t, "Possible", l, []api.Span{span(12, 12)})
}

// TestPossible is of P3.7: days are left out between the first one and the last one, and joined where different words are read.
func TestPossible(t *testing.T) {
	s := sheet([]int{1, 9, 1}, inMargin(1, 4, 0, 2), wear(2, 6, 2, 2), inMargin(3, 8, 0, 3), erase(4, 12, 2, 1), erase(5, 14, 0, 5), erase(6, 16, 0, 1))
	c := copied(2, 20, 3, 1, 9, 1)
	for line, should := range [][]api.Span{{span(2, 13), span(16, 20)}, {span(2, 20)}, {span(2, 5), span(12, 20)}} {
		l, e := state.Possible(s, c, line)
		wantErr(t, "Possible", e, api.OK)
		want(t, "Possible", l, should)
	}
	c.PerDay = 1 // the lines stand on three days
	for line, should := range [][]api.Span{{span(2, 13), span(16, 18)}, {span(3, 19)}, {span(4, 5), span(12, 20)}} {
		l, e := state.Possible(s, c, line)
		wantErr(t, "Possible", e, api.OK)
		want(t, "Possible", l, should)
	}
}

// TestLong is of P3.7: neither the first beginning nor the last one need be that of the shortest days.
func TestLong(t *testing.T) {
	// The first line can be copied on the day 0, on 10 and 11, and from 20 on, the second one up to 2, on 11 and 12, and from 26 on.
	s := sheet([]int{1, 2}, erase(1, 1, 0, 9), wear(2, 3, 1, 1), erase(3, 10, 0, 1), erase(4, 11, 1, 2), wear(5, 12, 0, 0), wear(6, 13, 1, 1), erase(7, 20, 0, 1), erase(8, 26, 1, 2))
	for _, x := range []struct {
		c    api.Copied
		long api.Span
	}{
		{copied(0, 30, 2, 1, 2), span(0, 30)},
		{copied(0, 30, 1, 1, 2), span(1, 30)},
		{copied(0, 11, 1, 1, 2), span(1, 11)},
		{copied(10, 11, 1, 1, 2), span(1, 1)},
		{copied(12, 30, 2, 1, 2), span(0, 10)},
		{copied(12, 26, 2, 1, 2), span(0, 6)},
		{copied(12, 26, 1, 1, 2), span(1, 6)},
		{copied(0, 2, 2, 1, 2), span(0, 2)},
	} {
		long, e := state.Long(s, x.c)
		wantErr(t, "Long", e, api.OK)
		want(t, "Long", long, x.long)
	}
	// The first line can be copied up to the day 2, and on 10, the second one on 5, and from 30 on: the latest beginning is not the shortest.
	s = sheet([]int{1, 9}, erase(1, 3, 0, 9), erase(2, 5, 1, 2), wear(3, 6, 1, 1), erase(4, 10, 0, 1), wear(5, 11, 0, 0), erase(6, 30, 1, 2))
	for _, perDay := range []int{1, 2} {
		long, e := state.Long(s, copied(0, 40, perDay, 1, 2))
		wantErr(t, "Long", e, api.OK)
		want(t, "Long", long, span(3, 40))
	}
	many := sheet(numbers(api.MaxLines, 1))
	for perDay, should := range map[int]int{1: 39, 2: 19, 3: 13, 13: 3, 39: 1, 40: 0} {
		long, e := state.Long(many, copied(0, api.MaxDay, perDay, numbers(api.MaxLines, 1)...))
		wantErr(t, "Long", e, api.OK)
		want(t, "Long", long, span(should, api.MaxDay))
	}
}

// TestMostLines is of P3.4 and P3.6: the greatest numbers that there are, and just too many lines.
func TestMostLines(t *testing.T) {
	s := sheet(numbers(api.MaxLines, api.MaxWord))
	for perDay := 1; perDay <= api.MaxPerDay; perDay++ {
		c := copied(api.MaxDay-(api.MaxLines-1)/perDay, api.MaxDay, perDay, s.Words...)
		first, last := firstOf(t, s, c), lastOf(t, s, c)
		for line := range s.Words {
			want(t, "First", first[line], c.Begin+line/perDay)
			want(t, "Last", last[line], api.MaxDay-(api.MaxLines-1-line)/perDay)
		}
		c.Begin++
		if c.Begin > c.End {
			continue
		}
		floors, is := clashOf(t, s, c)
		want(t, "Clash", is, true)
		want(t, "Clash: lines", len(floors), (c.End-c.Begin+1)*perDay+1)
		wantErr(t, "CheckClash", state.CheckClash(s, c, floors), api.OK)
	}
}

// TestCheckFloors is of P3.5.
func TestCheckFloors(t *testing.T) {
	s, c := example(), exampleCopy()
	for _, x := range []struct {
		c      api.Copied
		floors []int
		e      api.Errno
	}{
		{c, []int{0, 10, 20, 20}, api.OK},
		{c, []int{0}, api.OK},
		{c, []int{1}, api.ErrProof},
		{c, []int{0, 0}, api.OK},
		{c, []int{0, 10}, api.OK},
		{c, []int{0, 11}, api.ErrProof},
		{c, []int{0, 10, 20}, api.OK},
		{c, []int{0, 10, 21}, api.ErrProof},
		{c, []int{0, 10, 20, 21}, api.ErrProof},
		{c, []int{0, 10, 0, 0}, api.OK},
		{c, []int{0, 10, 0, 20}, api.ErrProof}, // without the floor of the line before it
		{c, []int{0, 0, 0, 1}, api.OK},         // 2 lines a day
		{c, []int{0, 0, 0, 2}, api.ErrProof},
		{c, []int{math.MaxInt}, api.ErrProof},
		{c, []int{0, math.MaxInt, math.MaxInt, math.MaxInt}, api.ErrProof},
		{c, nil, api.ErrArg},
		{c, []int{}, api.ErrArg},
		{c, []int{0, 0, 0, 0, 0}, api.ErrArg},
		{c, []int{1, 0, 0, 0, 0}, api.ErrArg},
		{copied(5, 100, 4, 11, 22, 33, 14), []int{5, 10, 20, 20}, api.OK},
		{copied(5, 100, 4, 11, 22, 33, 14), []int{6, 10, 20, 20}, api.ErrProof},
		{copied(35, 100, 4, 11, 22, 33, 14), []int{101}, api.OK}, // no day is open
		{copied(35, 100, 4, 11, 22, 33, 14), []int{101, 101, 101, 101}, api.OK},
		{copied(35, 100, 4, 11, 22, 33, 14), []int{35, 36}, api.ErrProof},
		{copied(0, 100, 1, 11, 22, 33, 14), []int{29, 30}, api.ErrProof},
		{copied(0, 100, 1, 11, 12, 13, 14), []int{0, 1, 2, 3}, api.OK},
		{copied(0, 100, 1, 11, 12, 13, 14), []int{0, 1, 2, 4}, api.ErrProof},
		{copied(0, 100, 1, 11, 12, 13, 14), []int{0, 0, 1, 2}, api.OK},
		{copied(0, 100, 3, 11, 12, 13, 14), []int{0, 0, 0, 1}, api.OK},
		{copied(0, 100, 3, 11, 12, 13, 14), []int{0, 0, 0, 2}, api.ErrProof},
		{copied(0, 100, 4, 11, 12, 13, 14), []int{0, 0, 0, 0}, api.OK},
		{copied(0, 100, 4, 11, 12, 13, 14), []int{0, 0, 0, 1}, api.ErrProof},
	} {
		if e := state.CheckFloors(s, x.c, x.floors); e != x.e {
			t.Error("CheckFloors", x.c, x.floors, e)
		}
	}
}

// TestCheckCeilings is of P3.5.
func TestCheckCeilings(t *testing.T) {
	s, c := example(), exampleCopy()
	const most, least = math.MaxInt, math.MinInt
	worn := copied(35, 100, 1, 11, 12, 13, 14) // no day is open for all lines but the last one
	for _, x := range []struct {
		c        api.Copied
		ceilings []int
		e        api.Errno
	}{
		{c, []int{29, 38, 39, 39}, api.OK},
		{c, []int{28, 38, 39, 39}, api.ErrProof},
		{c, []int{29, 37, 39, 39}, api.ErrProof},
		{c, []int{29, 38, 38, 39}, api.ErrProof},
		{c, []int{29, 38, 39, 38}, api.ErrProof},
		{c, []int{30, 39, 40, 40}, api.OK},
		{c, []int{29, 38, 100, 39}, api.OK},
		{c, []int{29, 38, 100, 40}, api.ErrProof}, // the line 1 can have the day 39 then
		{c, []int{most, most, most, most}, api.OK},
		{c, []int{100, 100, 100, 100}, api.OK},
		{c, []int{100, 98, 99, 99}, api.OK}, // the line 1 by the line 3
		{c, []int{100, 97, 99, 99}, api.ErrProof},
		{c, []int{least, least, least, least}, api.ErrProof},
		{c, []int{-1, -1, -1, -1}, api.ErrProof},
		{c, []int{least, 38, 39, 39}, api.ErrProof},
		{c, nil, api.ErrArg},
		{c, []int{29, 38, 39}, api.ErrArg},
		{c, []int{29, 38, 39, 39, 39}, api.ErrArg},
		{c, []int{-1, 38, 39, 39, 39}, api.ErrArg},
		{worn, []int{least, least, least, least}, api.ErrProof},
		{worn, []int{least, least, least, 39}, api.OK},
		{worn, []int{least, most, least, 39}, api.OK},
		{copied(45, 100, 1, 11, 12, 13, 14), []int{least, least, least, least}, api.OK}, // no day is open
		{copied(45, 100, 1, 11, 12, 13, 14), []int{-1, 0, 0, 0}, api.OK},
		{copied(45, 100, 4, 11, 12, 13, 14), []int{most, least, 50, 0}, api.OK},
		{copied(0, 29, 1, 11, 12, 13, 14), []int{26, 27, 19, 29}, api.OK},
		{copied(0, 29, 1, 11, 12, 13, 14), []int{26, 17, 19, 29}, api.ErrProof},
		{copied(0, 29, 1, 11, 12, 13, 14), []int{17, 18, 19, 29}, api.OK},
		{copied(0, 29, 1, 11, 12, 13, 14), []int{16, 18, 19, 29}, api.ErrProof},
		{copied(0, 19, 1, 11, 12, 13, 14), []int{16, 17, 18, 19}, api.OK},
		{copied(0, 19, 1, 11, 12, 13, 14), []int{15, 17, 18, 19}, api.ErrProof},
		{copied(0, 19, 3, 11, 12, 13, 14), []int{18, 19, 19, 19}, api.OK},
		{copied(0, 19, 3, 11, 12, 13, 14), []int{17, 19, 19, 19}, api.ErrProof},
		{copied(0, 19, 4, 11, 12, 13, 14), []int{18, 19, 19, 19}, api.ErrProof},
		{copied(0, 19, 4, 11, 12, 13, 14), []int{19, 19, 19, 19}, api.OK},
	} {
		if e := state.CheckCeilings(s, x.c, x.ceilings); e != x.e {
			t.Error("CheckCeilings", x.c, x.ceilings, e)
		}
	}
}

// somewhere is numbers near those of a list.
func somewhere(r *rand.Rand, l []int, n int) []int {
	near := slices.Clone(l[:min(n, len(l))])
	for len(near) < n {
		near = append(near, r.Intn(9))
	}
	for range r.Intn(3) {
		near[r.Intn(n)] += r.Intn(5) - 2
	}
	for i := range near {
		near[i] = max(near[i], 0)
	}
	return near
}

// TestProofsAgree is of P3.5 and P3.6: floors and ceilings are accepted just where the document says that they hold.
func TestProofsAgree(t *testing.T) {
	r := rand.New(rand.NewSource(5))
	held, show := map[bool]int{}, 0
	someCases(1500, func(s api.Sheet, c, d api.Copied) {
		lines := len(c.Words)
		first, _ := state.First(s, c)
		last, _ := state.Last(s, c)
		clash, _ := clashOf(t, s, c)
		for _, near := range [][]int{first, clash, numbers(lines, c.End+1), nil} {
			floors := somewhere(r, near, 1+r.Intn(lines))
			e := api.OK
			if !floorsHold(s, c, floors) {
				e = api.ErrProof
			}
			if got := state.CheckFloors(s, c, floors); got != e {
				t.Error("CheckFloors", s, c, floors, got)
			}
			held[e == api.OK]++
			if e == api.OK && floors[len(floors)-1] > c.End {
				show++
			} else {
				e = api.ErrProof
			}
			if got := state.CheckClash(s, c, floors); got != e {
				t.Error("CheckClash", s, c, floors, got)
			}
		}
		for _, near := range [][]int{last, last, numbers(lines, c.Begin-1), nil} {
			ceilings := somewhere(r, near, lines)
			e := api.OK
			if !ceilingsHold(s, c, ceilings) {
				e = api.ErrProof
			}
			if got := state.CheckCeilings(s, c, ceilings); got != e {
				t.Error("CheckCeilings", s, c, ceilings, got)
			}
			held[e == api.OK]++
		}
	})
	if held[true] < 1000 || held[false] < 1000 || show < 100 {
		t.Error("too few proofs of a sort:", held, show)
	}
}

// TestClash is of P3.6.
func TestClash(t *testing.T) {
	s := example()
	for _, x := range []struct {
		c     api.Copied
		lines int
	}{
		{copied(0, 100, 2, 0, 12, 13, 14), 2},
		{copied(0, 100, 2, 12, 12, 13, 14), 1},
		{copied(30, 100, 2, 11, 12, 13, 14), 1},
		{copied(0, 100, 2, 11, 22, 13, 0), 0},
		{copied(0, 20, 1, 11, 22, 33, 14), 4},
		{copied(0, 20, 2, 11, 22, 33, 14), 0},
		{copied(0, 20, 2, 11, 22, 33, 0), 4},
		{copied(0, api.MaxDay, 2, 0, 12, 33, 0), 2},
		{copied(0, api.MaxDay, 2, 11, 22, 13, 15), 4},
		{copied(0, api.MaxDay, 2, 9, 9, 9, 9), 1},
		{copied(5, 5, 3, 11, 12, 13, 14), 4},
		{copied(5, 5, 2, 11, 12, 13, 14), 3},
		{copied(5, 5, 1, 11, 12, 13, 14), 2},
		{copied(5, 5, 4, 11, 12, 13, 14), 0},
	} {
		floors, is := clashOf(t, s, x.c)
		if is != (x.lines > 0) || len(floors) != x.lines {
			t.Error("Clash", x.c, floors, is)
		}
		if is {
			clashAgrees(t, s, x.c, floors)
		}
	}
}

// TestCheckClash is of P3.6.
func TestCheckClash(t *testing.T) {
	s := example()
	c := copied(0, 100, 2, 0, 12, 13, 14)
	for _, x := range []struct {
		c      api.Copied
		floors []int
		e      api.Errno
	}{
		{c, []int{30, 101}, api.OK},
		{c, []int{30, api.MaxDay}, api.OK},
		{c, []int{30, 101, 101}, api.OK},
		{c, []int{30, 101, 101, 101}, api.OK},
		{c, []int{30, 101, 0, 101}, api.OK}, // by the line 1 alone
		{c, []int{30, 101, 0, 102}, api.OK},
		{c, []int{30, 101, 0, 0}, api.ErrProof}, // the last floor shows nothing
		{c, []int{30, 101, 100}, api.ErrProof},
		{c, []int{30, 100}, api.ErrProof},
		{c, []int{30}, api.ErrProof},
		{c, []int{29, 101}, api.ErrProof},
		{c, []int{31, 101}, api.ErrProof},
		{c, []int{101}, api.ErrProof},
		{c, nil, api.ErrArg},
		{c, []int{30, 101, 101, 101, 101}, api.ErrArg},
		{exampleCopy(), []int{0, 10, 20, 20}, api.ErrProof},
		{exampleCopy(), []int{101}, api.ErrProof},
		{exampleCopy(), []int{0, 10, 20, 101}, api.ErrProof},
		{exampleCopy(), []int{101, 101, 101, 101}, api.ErrProof},
		{copied(5, 5, 1, 11, 12, 13, 14), []int{5, 6}, api.OK},
		{copied(5, 5, 1, 11, 12, 13, 14), []int{4, 6}, api.ErrProof},
		{copied(5, 5, 2, 11, 12, 13, 14), []int{5, 5, 6}, api.OK},
		{copied(5, 5, 2, 11, 12, 13, 14), []int{5, 0, 6}, api.OK},
		{copied(5, 5, 2, 11, 12, 13, 14), []int{0, 5, 6}, api.ErrProof},
	} {
		if e := state.CheckClash(s, x.c, x.floors); e != x.e {
			t.Error("CheckClash", x.c, x.floors, e)
		}
	}
}
