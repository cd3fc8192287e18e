package state_test

import (
	"math/rand"
	"reflect"
	"slices"
	"testing"

	"pecia/api"
	"pecia/state"
)

func wear(id, day, from, to int) api.Alter {
	return api.Alter{ID: id, Kind: api.AlWear, Day: day, From: from, To: to}
}
func lose(id, day, from, to int) api.Alter {
	return api.Alter{ID: id, Kind: api.AlLose, Day: day, From: from, To: to}
}
func inMargin(id, day, line, word int) api.Alter {
	return api.Alter{ID: id, Kind: api.AlMargin, Day: day, From: line, To: line, Word: word}
}
func erase(id, day, line, word int) api.Alter {
	return api.Alter{ID: id, Kind: api.AlErase, Day: day, From: line, To: line, Word: word}
}

// example is the sheet of the chapter's examples.
func example() api.Sheet {
	return api.Sheet{
		Words:  []int{11, 12, 13, 14},
		Alters: []api.Alter{inMargin(1, 10, 1, 22), erase(2, 20, 2, 33), wear(3, 30, 0, 1), lose(4, 40, 3, 3)},
	}
}

// copied is a copy from a day to another one, with so many lines a day.
func copied(begin, end, perDay int, words ...int) api.Copied {
	return api.Copied{Words: words, Begin: begin, End: end, PerDay: perDay}
}

// exampleCopy is the first copy of the examples.
func exampleCopy() api.Copied { return copied(0, 100, 2, 11, 22, 33, 14) }

func span(lo, hi int) api.Span { return api.Span{Lo: lo, Hi: hi} }

// sheet is a sheet with a word for each line.
func sheet(words []int, alters ...api.Alter) api.Sheet {
	return api.Sheet{Words: words, Alters: alters}
}

// numbers is a number n times.
func numbers(n, number int) []int {
	l := make([]int, n)
	for i := range l {
		l[i] = number
	}
	return l
}

func cloneSheet(s api.Sheet) api.Sheet {
	return api.Sheet{Words: slices.Clone(s.Words), Alters: slices.Clone(s.Alters)}
}

func cloneCopy(c api.Copied) api.Copied {
	c.Words = slices.Clone(c.Words)
	return c
}

// zeroSheet is whether all fields of a sheet are zero.
func zeroSheet(s api.Sheet) bool { return len(s.Words)+len(s.Alters) == 0 }

func wantErr(t *testing.T, what string, got, want api.Errno) {
	t.Helper()
	if got != want {
		t.Errorf("%s: error %d, want %d", what, got, want)
	}
}

// check is that there is an error, and with it nothing else.
func check(t *testing.T, what string, got, want api.Errno, more bool) {
	t.Helper()
	wantErr(t, what, got, want)
	if more {
		t.Error(what, "returns something with an error")
	}
}

// want compares results with what they should be; an empty slice is the same whether it is nil or not.
func want(t *testing.T, what string, got, should any) {
	t.Helper()
	a, b := reflect.ValueOf(got), reflect.ValueOf(should)
	if a.Kind() == reflect.Slice && a.Len() == 0 && b.Len() == 0 {
		return
	}
	if !reflect.DeepEqual(got, should) {
		t.Errorf("%s: %v, want %v", what, got, should)
	}
}

func wantSheet(t *testing.T, what string, got, should api.Sheet) {
	t.Helper()
	want(t, what+": words", got.Words, should.Words)
	want(t, what+": changes", got.Alters, should.Alters)
}

// reads is what a line reads on a day, by the words of the document.
func reads(s api.Sheet, line, day int) []int {
	text, margin, lost := s.Words[line], 0, false
	for _, a := range s.Alters {
		if a.Day > day || line < a.From || line > a.To || lost {
			continue
		}
		switch a.Kind {
		case api.AlWear:
			text = 0
		case api.AlLose:
			text, margin, lost = 0, 0, true
		case api.AlMargin:
			margin = a.Word
		case api.AlErase:
			text, margin = a.Word, 0
		}
	}
	var l []int
	if text != 0 {
		l = append(l, text)
	}
	if margin != 0 && margin != text {
		l = append(l, margin)
	}
	return l
}

// canCopy is whether a word, or nothing, can be copied from a line on a day.
func canCopy(s api.Sheet, line, word, day int) bool {
	l := reads(s, line, day)
	return word == 0 && len(l) == 0 || word != 0 && slices.Contains(l, word)
}

// openDays is, for each line, on which days from Begin to End its word can be copied.
func openDays(s api.Sheet, c api.Copied) [][]int {
	l := make([][]int, len(c.Words))
	for line, word := range c.Words {
		for day := c.Begin; day <= c.End; day++ {
			if canCopy(s, line, word, day) {
				l[line] = append(l[line], day)
			}
		}
	}
	return l
}

// misfit is the first line for which days do not fit, or -1.
func misfit(s api.Sheet, c api.Copied, days []int) int {
	for i, day := range days {
		if day < c.Begin || day > c.End || !canCopy(s, i, c.Words[i], day) ||
			i >= 1 && day < days[i-1] || i >= c.PerDay && day <= days[i-c.PerDay] {
			return i
		}
	}
	return -1
}

// allFits is all days that fit for the first lines.
func allFits(s api.Sheet, c api.Copied, lines int) [][]int {
	open := openDays(s, c)
	var all [][]int
	var from func(days []int)
	from = func(days []int) {
		i := len(days)
		if i == lines {
			all = append(all, slices.Clone(days))
			return
		}
		for _, day := range open[i] {
			if (i < 1 || day >= days[i-1]) && (i < c.PerDay || day > days[i-c.PerDay]) {
				from(append(slices.Clone(days), day))
			}
		}
	}
	from(nil)
	return all
}

// fits is all days that fit.
func fits(s api.Sheet, c api.Copied) [][]int { return allFits(s, c, len(c.Words)) }

// spansOf is days that rise as the fewest spans.
func spansOf(days []int) []api.Span {
	var l []api.Span
	for _, day := range days {
		if n := len(l); n > 0 && l[n-1].Hi == day-1 {
			l[n-1].Hi = day
		} else {
			l = append(l, span(day, day))
		}
	}
	return l
}

// lesser is the lesser one of two days for each line, greater the greater one.
func lesser(a, b []int) []int {
	l := slices.Clone(a)
	for i := range l {
		l[i] = min(l[i], b[i])
	}
	return l
}

func greater(a, b []int) []int {
	l := slices.Clone(a)
	for i := range l {
		l[i] = max(l[i], b[i])
	}
	return l
}

// floorsHold is whether floors hold, by the words of the document.
func floorsHold(s api.Sheet, c api.Copied, floors []int) bool {
	open := openDays(s, c)
	for i, floor := range floors {
		for _, day := range open[i] {
			if (i < 1 || day >= floors[i-1]) && (i < c.PerDay || day > floors[i-c.PerDay]) && day < floor {
				return false
			}
		}
	}
	return true
}

// ceilingsHold is whether ceilings hold, by the words of the document.
func ceilingsHold(s api.Sheet, c api.Copied, ceilings []int) bool {
	open := openDays(s, c)
	n := len(ceilings)
	for i, ceiling := range ceilings {
		for _, day := range open[i] {
			if (i+1 >= n || day <= ceilings[i+1]) && (i+c.PerDay >= n || day < ceilings[i+c.PerDay]) && day > ceiling {
				return false
			}
		}
	}
	return true
}

// wasBefore is whether a change was before a copy that was made on some days.
func wasBefore(a api.Alter, days []int) bool {
	for line := a.From; line <= a.To; line++ {
		if a.Day <= days[line] {
			return true
		}
	}
	return false
}

// idsOf is the IDs of the changes of which something is so, in increasing order.
func idsOf(s api.Sheet, is func(api.Alter) bool) []int {
	var ids []int
	for _, a := range s.Alters {
		if is(a) {
			ids = append(ids, a.ID)
		}
	}
	slices.Sort(ids)
	return ids
}

// removed is a sheet without the change with an ID.
func removed(s api.Sheet, id int) api.Sheet {
	s = cloneSheet(s)
	s.Alters = slices.DeleteFunc(s.Alters, func(a api.Alter) bool { return a.ID == id })
	return s
}

// someSheet is a sheet whose words are up to vary, and whose changes lie on the days up to last.
func someSheet(r *rand.Rand, lines, alters, vary, last int) api.Sheet {
	s := api.Sheet{}
	for range lines {
		s.Words = append(s.Words, 1+r.Intn(vary))
	}
	ids := r.Perm(3 * alters)
	for i := range alters {
		a := api.Alter{ID: 1 + ids[i], Kind: 1 + r.Intn(4), Day: r.Intn(last + 1), From: r.Intn(lines)}
		if a.Kind == api.AlLose && r.Intn(5) > 0 { // behind a loss nothing happens any more
			a.Kind = api.AlErase
		}
		if a.Kind == api.AlMargin || a.Kind == api.AlErase {
			a.To, a.Word = a.From, 1+r.Intn(vary)
		} else {
			a.To = min(lines-1, a.From+r.Intn(3))
		}
		s.Alters = append(s.Alters, a)
	}
	slices.SortStableFunc(s.Alters, func(a, b api.Alter) int { return a.Day - b.Day })
	return s
}

// someDays is days that do not fall, from a day to another one, with so many lines a day at most; there must be room for them.
func someDays(r *rand.Rand, lines, begin, end, perDay int) []int {
	for {
		days := make([]int, lines)
		for i := range days {
			days[i] = begin + r.Intn(end-begin+1)
		}
		slices.Sort(days)
		for i := perDay; i < lines; i++ {
			days[i] = max(days[i], days[i-1], days[i-perDay]+1)
		}
		if days[lines-1] <= end {
			return days
		}
	}
}

// trueWords is what a scribe can have copied on some days.
func trueWords(r *rand.Rand, s api.Sheet, days []int) []int {
	words := make([]int, len(days))
	for line, day := range days {
		if l := reads(s, line, day); len(l) > 0 {
			words[line] = l[r.Intn(len(l))]
		}
	}
	return words
}

// someCopy is a copy between the days 0 and last; about half of them were truly made.
func someCopy(r *rand.Rand, s api.Sheet, vary, last int) api.Copied {
	lines := len(s.Words)
	begin := r.Intn(last + 1)
	c := copied(begin, begin+r.Intn(last-begin+1), 1+r.Intn(3))
	if r.Intn(2) == 0 && (c.End-c.Begin+1)*c.PerDay >= lines {
		c.Words = trueWords(r, s, someDays(r, lines, c.Begin, c.End, c.PerDay))
		return c
	}
	for range lines {
		c.Words = append(c.Words, r.Intn(vary+1))
	}
	return c
}

// someCases calls do with small sheets, and two copies of each, always the same ones.
func someCases(n int, do func(s api.Sheet, c, d api.Copied)) {
	r := rand.New(rand.NewSource(int64(n)))
	for range n {
		vary, last := 1+r.Intn(3), 1+r.Intn(7)
		s := someSheet(r, 1+r.Intn(4), r.Intn(6), vary, last)
		do(s, someCopy(r, s, vary, last), someCopy(r, s, vary, last))
	}
}

// greatCases calls do with sheets of all sizes, copies, and the days on which these were truly made; always the same ones.
func greatCases(n int, do func(s api.Sheet, c api.Copied, days []int)) {
	r := rand.New(rand.NewSource(int64(n)))
	for range n {
		vary := 1 + r.Intn(4)
		lines := 1 + r.Intn(4) // many changes of few lines
		if r.Intn(3) > 0 {
			lines = 1 + r.Intn(api.MaxLines)
		}
		s := someSheet(r, lines, r.Intn(api.MaxAlters+1), vary, api.MaxDay)
		c := copied(0, api.MaxDay, 1+r.Intn(api.MaxPerDay))
		if begin := r.Intn(api.MaxDay + 1); (api.MaxDay+1-begin)*c.PerDay >= lines {
			room := (lines + c.PerDay - 1) / c.PerDay
			c.Begin, c.End = begin, begin+room-1+r.Intn(api.MaxDay+2-begin-room)
		}
		days := someDays(r, lines, c.Begin, c.End, c.PerDay)
		c.Words = trueWords(r, s, days)
		do(s, c, days)
	}
}

// firstOf is First of a copy that can have been made.
func firstOf(t *testing.T, s api.Sheet, c api.Copied) []int {
	t.Helper()
	return daysBy(t, "First", state.First, s, c)
}

// lastOf is Last of a copy that can have been made.
func lastOf(t *testing.T, s api.Sheet, c api.Copied) []int {
	t.Helper()
	return daysBy(t, "Last", state.Last, s, c)
}

func daysBy(t *testing.T, what string, f func(api.Sheet, api.Copied) ([]int, api.Errno), s api.Sheet, c api.Copied) []int {
	t.Helper()
	days, e := f(s, c)
	wantErr(t, what, e, api.OK)
	if len(days) != len(s.Words) {
		t.Fatal(what, s, c, days)
	}
	return days
}

// clashOf is Clash of a valid copy.
func clashOf(t *testing.T, s api.Sheet, c api.Copied) ([]int, bool) {
	t.Helper()
	floors, is, e := state.Clash(s, c)
	wantErr(t, "Clash", e, api.OK)
	return floors, is
}
