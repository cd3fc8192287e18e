package state_test

import (
	"math"
	"math/rand"
	"slices"
	"testing"

	"pecia/api"
	"pecia/state"
)

// changed is the example's sheet with a change.
func changed(change func(s *api.Sheet)) api.Sheet {
	s := example()
	change(&s)
	return s
}

// withAlter is the example's sheet with another change at an index.
func withAlter(k int, a api.Alter) api.Sheet {
	return changed(func(s *api.Sheet) { s.Alters[k] = a })
}

// manyAlters is so many changes of the first line.
func manyAlters(n int) []api.Alter {
	var l []api.Alter
	for i := range n {
		l = append(l, inMargin(i+1, min(i, api.MaxDay), 0, 1+i%api.MaxWord))
	}
	return l
}

// A sheetCase is a sheet, and its error.
type sheetCase struct {
	s api.Sheet
	e api.Errno
}

// wrongSheets is sheets that are not valid.
func wrongSheets() map[string]sheetCase {
	l := map[string]sheetCase{
		"no words":             {api.Sheet{}, api.ErrArg},
		"no words, changes":    {sheet(nil, example().Alters...), api.ErrArg},
		"too many words":       {sheet(numbers(api.MaxLines+1, 1)), api.ErrArg},
		"word 0":               {sheet([]int{1, 0}), api.ErrArg},
		"word -1":              {sheet([]int{-1, 1}), api.ErrArg},
		"word too great":       {sheet([]int{1, api.MaxWord + 1}), api.ErrArg},
		"too many changes":     {sheet([]int{1}, manyAlters(api.MaxAlters+1)...), api.ErrLimit},
		"too many wrong":       {sheet([]int{1}, make([]api.Alter, api.MaxAlters+1)...), api.ErrLimit},
		"words before changes": {sheet([]int{0}, manyAlters(api.MaxAlters+1)...), api.ErrArg},
		"an ID twice":          {withAlter(3, lose(1, 40, 3, 3)), api.ErrTwice},
		"an ID twice at once":  {withAlter(1, erase(1, 20, 2, 33)), api.ErrTwice},
		"twice, then wrong":    {sheet([]int{1}, wear(5, 1, 0, 0), wear(5, 2, 0, 0), wear(0, 3, 0, 0)), api.ErrTwice},
		"wrong, then twice":    {sheet([]int{1}, wear(5, 1, 0, 0), wear(0, 2, 0, 0), wear(5, 3, 0, 0)), api.ErrArg},
		"twice and wrong":      {sheet([]int{1}, wear(5, 1, 0, 0), wear(5, 2, 0, 1)), api.ErrArg},
		"twice and too early":  {sheet([]int{1}, wear(5, 2, 0, 0), wear(5, 1, 0, 0)), api.ErrArg},
	}
	for what, a := range wrongAlters() {
		l[what] = sheetCase{withAlter(1, a), api.ErrArg}
	}
	l["last day behind the last"] = sheetCase{withAlter(3, lose(4, api.MaxDay+1, 3, 3)), api.ErrArg}
	l["first day -1"] = sheetCase{withAlter(0, inMargin(1, -1, 1, 22)), api.ErrArg}
	return l
}

// wrongAlters is changes that are not right as the second one of the example's sheet.
func wrongAlters() map[string]api.Alter {
	return map[string]api.Alter{
		"ID 0":                  erase(0, 20, 2, 33),
		"ID -1":                 erase(-1, 20, 2, 33),
		"ID too great":          erase(api.MaxID+1, 20, 2, 33),
		"ID least":              erase(math.MinInt, 20, 2, 33),
		"day before":            erase(2, 9, 2, 33),
		"day -1":                erase(2, -1, 2, 33),
		"no kind":               {ID: 2, Day: 20, From: 2, To: 2},
		"no kind, a word":       {ID: 2, Day: 20, From: 2, To: 2, Word: 33},
		"kind -1":               {ID: 2, Kind: -1, Day: 20, From: 2, To: 2},
		"kind 5":                {ID: 2, Kind: 5, Day: 20, From: 2, To: 2},
		"kind 5, a word":        {ID: 2, Kind: 5, Day: 20, From: 2, To: 2, Word: 33},
		"wear from -1":          wear(2, 20, -1, 2),
		"wear up to 4":          wear(2, 20, 2, 4),
		"wear to greatest":      wear(2, 20, 2, math.MaxInt),
		"wear from least":       wear(2, 20, math.MinInt, 2),
		"wear from behind to":   wear(2, 20, 2, 1),
		"wear of no line":       wear(2, 20, 4, 4),
		"lose from -1":          lose(2, 20, -1, 0),
		"lose up to 4":          lose(2, 20, 0, 4),
		"lose from behind to":   lose(2, 20, 3, 0),
		"wear with a word":      {ID: 2, Kind: api.AlWear, Day: 20, From: 1, To: 2, Word: 33},
		"lose with a word":      {ID: 2, Kind: api.AlLose, Day: 20, From: 1, To: 2, Word: 33},
		"margin of two lines":   {ID: 2, Kind: api.AlMargin, Day: 20, From: 1, To: 2, Word: 33},
		"margin to 0":           {ID: 2, Kind: api.AlMargin, Day: 20, From: 1, To: 0, Word: 33},
		"margin of word 0":      inMargin(2, 20, 2, 0),
		"margin of word -1":     inMargin(2, 20, 2, -1),
		"margin word too great": inMargin(2, 20, 2, api.MaxWord+1),
		"margin of line -1":     inMargin(2, 20, -1, 33),
		"margin of line 4":      inMargin(2, 20, 4, 33),
		"erase of two lines":    {ID: 2, Kind: api.AlErase, Day: 20, From: 1, To: 2, Word: 33},
		"erase with word 0":     erase(2, 20, 2, 0),
		"erase with word -1":    erase(2, 20, 2, -1),
		"erase, word too great": erase(2, 20, 2, api.MaxWord+1),
		"erase of line -1":      erase(2, 20, -1, 33),
		"erase of line 4":       erase(2, 20, 4, 33),
		"nothing":               {},
		"greatest day":          erase(2, math.MaxInt, 2, 33),
		"later than the next":   erase(2, 31, 2, 33), // the next one is wrong then
		"day behind the last":   erase(2, api.MaxDay+1, 2, 33),
		"wear day behind last":  wear(2, api.MaxDay+1, 0, 0),
		"lose with ID 0":        lose(0, 20, 0, 0),
	}
}

// rightSheets is sheets that are valid, though just so.
func rightSheets() map[string]api.Sheet {
	return map[string]api.Sheet{
		"example":         example(),
		"one line":        sheet([]int{1}),
		"most lines":      sheet(numbers(api.MaxLines, api.MaxWord), wear(api.MaxID, api.MaxDay, 0, api.MaxLines-1)),
		"most changes":    sheet([]int{1}, manyAlters(api.MaxAlters)...),
		"all on one day":  sheet([]int{1, 2}, wear(9, 0, 0, 1), erase(8, 0, 0, 3), inMargin(7, 0, 1, 4), lose(6, 0, 0, 0)),
		"greatest day":    sheet([]int{1, 2}, wear(1, api.MaxDay, 0, 0), lose(2, api.MaxDay, 1, 1)),
		"greatest words":  sheet([]int{api.MaxWord}, inMargin(1, 0, 0, api.MaxWord), erase(2, 0, 0, api.MaxWord)),
		"least words":     sheet([]int{1}, inMargin(1, 0, 0, 1), erase(2, 0, 0, 1)),
		"lost, and later": sheet([]int{1}, lose(1, 3, 0, 0), erase(2, 4, 0, 1), lose(3, 5, 0, 0)),
		"IDs that fall":   sheet([]int{1}, wear(3, 1, 0, 0), wear(2, 2, 0, 0), wear(1, 3, 0, 0)),
	}
}

// TestCheck is of P3.1.
func TestCheck(t *testing.T) {
	for what, s := range rightSheets() {
		wantErr(t, what, state.Check(s), api.OK)
	}
	for what, x := range wrongSheets() {
		wantErr(t, what, state.Check(x.s), x.e)
	}
}

// A call is a function of the chapter, with a sheet and more: its error, and whether there is anything else.
type call func(s api.Sheet, c, d api.Copied, line int) (api.Errno, bool)

// sheetCalls is the functions with a sheet and no copy.
func sheetCalls() map[string]call {
	return map[string]call{
		"Reads": func(s api.Sheet, c, d api.Copied, line int) (api.Errno, bool) {
			l, e := state.Reads(s, line, line)
			return e, len(l) > 0
		},
		"When": func(s api.Sheet, c, d api.Copied, line int) (api.Errno, bool) {
			l, e := state.When(s, line, line)
			return e, len(l) > 0
		},
		"Add": func(s api.Sheet, c, d api.Copied, line int) (api.Errno, bool) {
			l, e := state.Add(s, api.Alter{ID: line})
			return e, !zeroSheet(l)
		},
		"Without": func(s api.Sheet, c, d api.Copied, line int) (api.Errno, bool) {
			l, e := state.Without(s, []int{line})
			return e, !zeroSheet(l)
		},
	}
}

// oneCopyCalls is the functions with a sheet and one copy.
func oneCopyCalls() map[string]call {
	two := func(f func(api.Sheet, api.Copied) ([]int, api.Errno)) call {
		return func(s api.Sheet, c, d api.Copied, line int) (api.Errno, bool) {
			l, e := f(s, c)
			return e, len(l) > 0
		}
	}
	return map[string]call{
		"CheckCopy": func(s api.Sheet, c, d api.Copied, line int) (api.Errno, bool) {
			return state.CheckCopy(s, c), false
		},
		"Fits": func(s api.Sheet, c, d api.Copied, line int) (api.Errno, bool) {
			n, is, e := state.Fits(s, c, nil)
			return e, n != 0 || is
		},
		"First": two(state.First),
		"Last":  two(state.Last),
		"CheckFloors": func(s api.Sheet, c, d api.Copied, line int) (api.Errno, bool) {
			return state.CheckFloors(s, c, nil), false
		},
		"CheckCeilings": func(s api.Sheet, c, d api.Copied, line int) (api.Errno, bool) {
			return state.CheckCeilings(s, c, nil), false
		},
		"Clash": func(s api.Sheet, c, d api.Copied, line int) (api.Errno, bool) {
			l, is, e := state.Clash(s, c)
			return e, len(l) > 0 || is
		},
		"CheckClash": func(s api.Sheet, c, d api.Copied, line int) (api.Errno, bool) {
			return state.CheckClash(s, c, nil), false
		},
		"Possible": func(s api.Sheet, c, d api.Copied, line int) (api.Errno, bool) {
			l, e := state.Possible(s, c, line)
			return e, len(l) > 0
		},
		"Long": func(s api.Sheet, c, d api.Copied, line int) (api.Errno, bool) {
			l, e := state.Long(s, c)
			return e, l != api.Span{}
		},
		"Seen": func(s api.Sheet, c, d api.Copied, line int) (api.Errno, bool) {
			l, m, e := state.Seen(s, c)
			return e, len(l)+len(m) > 0
		},
		"Suspects": two(state.Suspects),
		"Rests":    two(state.Rests),
		"Mixed": func(s api.Sheet, c, d api.Copied, line int) (api.Errno, bool) {
			l, m, n, e := state.Mixed([]api.Sheet{s}, c)
			return e, len(l)+len(m) > 0 || n != 0
		},
		"CheckMixed": func(s api.Sheet, c, d api.Copied, line int) (api.Errno, bool) {
			n, e := state.CheckMixed([]api.Sheet{s}, c, nil, nil)
			return e, n != 0
		},
	}
}

// twoCopyCalls is the functions with a sheet and two copies.
func twoCopyCalls() map[string]call {
	return map[string]call{
		"Between": func(s api.Sheet, c, d api.Copied, line int) (api.Errno, bool) {
			l, m, e := state.Between(s, c, d)
			return e, len(l)+len(m) > 0
		},
		"Before": func(s api.Sheet, c, d api.Copied, line int) (api.Errno, bool) {
			is, may, e := state.Before(s, c, d)
			return e, is || may
		},
	}
}

// TestSheetErrors is of P3.1, and of all functions with a sheet: they return the error of Check first, whatever else is wrong, and nothing else.
func TestSheetErrors(t *testing.T) {
	sources := func(s api.Sheet, c, d api.Copied, line int) (api.Errno, bool) {
		l, e := state.Sources([]api.Sheet{s}, c)
		return e, len(l) > 0
	}
	for what, x := range wrongSheets() {
		for _, calls := range []map[string]call{sheetCalls(), oneCopyCalls(), twoCopyCalls(), {"Sources": sources}} {
			for name, f := range calls {
				for _, c := range []api.Copied{{}, exampleCopy()} {
					e, more := f(x.s, c, c, -1)
					check(t, name+": "+what, e, x.e, more)
				}
			}
		}
	}
}

// wrongCopies is copies that are not valid for the example's sheet.
func wrongCopies() map[string]api.Copied {
	with := func(change func(c *api.Copied)) api.Copied {
		c := exampleCopy()
		change(&c)
		return c
	}
	return map[string]api.Copied{
		"nothing":           {},
		"no words":          with(func(c *api.Copied) { c.Words = nil }),
		"a word less":       with(func(c *api.Copied) { c.Words = c.Words[:3] }),
		"a word more":       with(func(c *api.Copied) { c.Words = append(c.Words, 1) }),
		"word -1":           with(func(c *api.Copied) { c.Words[3] = -1 }),
		"word too great":    with(func(c *api.Copied) { c.Words[0] = api.MaxWord + 1 }),
		"word greatest":     with(func(c *api.Copied) { c.Words[0] = math.MaxInt }),
		"begin -1":          with(func(c *api.Copied) { c.Begin = -1 }),
		"begin behind end":  with(func(c *api.Copied) { c.Begin = 101 }),
		"begin, end -1":     with(func(c *api.Copied) { c.Begin, c.End = -1, -1 }),
		"end -1":            with(func(c *api.Copied) { c.End = -1 }),
		"end too great":     with(func(c *api.Copied) { c.End = api.MaxDay + 1 }),
		"both too great":    with(func(c *api.Copied) { c.Begin, c.End = api.MaxDay+1, api.MaxDay+1 }),
		"end greatest":      with(func(c *api.Copied) { c.End = math.MaxInt }),
		"begin least":       with(func(c *api.Copied) { c.Begin = math.MinInt }),
		"per day 0":         with(func(c *api.Copied) { c.PerDay = 0 }),
		"per day -1":        with(func(c *api.Copied) { c.PerDay = -1 }),
		"per day too great": with(func(c *api.Copied) { c.PerDay = api.MaxPerDay + 1 }),
		"per day greatest":  with(func(c *api.Copied) { c.PerDay = math.MaxInt }),
	}
}

// TestCheckCopy is of P3.1.
func TestCheckCopy(t *testing.T) {
	one := sheet([]int{7})
	for what, x := range map[string]struct {
		s api.Sheet
		c api.Copied
	}{
		"example":          {example(), exampleCopy()},
		"other words":      {example(), copied(0, 0, 1, 0, 0, 0, 0)},
		"greatest words":   {example(), copied(5, 5, 1, api.MaxWord, api.MaxWord, 1, 0)},
		"greatest numbers": {one, copied(api.MaxDay, api.MaxDay, api.MaxPerDay, 7)},
		"all days":         {one, copied(0, api.MaxDay, 1, 7)},
		"most lines":       {sheet(numbers(api.MaxLines, 1)), copied(0, 9, 3, numbers(api.MaxLines, 2)...)},
	} {
		wantErr(t, what, state.CheckCopy(x.s, x.c), api.OK)
	}
}

// TestCopyErrors is of P3.1, and of all functions with a copy: these return ErrArg unless it is valid, and nothing else.
func TestCopyErrors(t *testing.T) {
	s := example()
	clash := copied(0, 100, 2, 0, 12, 13, 14)
	for what, c := range wrongCopies() {
		for name, f := range oneCopyCalls() {
			e, more := f(s, c, c, 0)
			check(t, name+": "+what, e, api.ErrArg, more)
		}
		for name, f := range twoCopyCalls() {
			for _, other := range []api.Copied{exampleCopy(), clash, c} {
				e, more := f(s, c, other, 0)
				check(t, name+", the first one: "+what, e, api.ErrArg, more)
				e, more = f(s, other, c, 0)
				check(t, name+", the second one: "+what, e, api.ErrArg, more)
			}
		}
	}
}

// TestReads is of P3.2.
func TestReads(t *testing.T) {
	s := sheet([]int{1, 2, 3, 4, 5},
		inMargin(1, 0, 0, 6), inMargin(2, 2, 0, 7), wear(3, 4, 0, 1), erase(4, 6, 0, 8), inMargin(5, 8, 0, 8), inMargin(6, 9, 0, 9), erase(7, 10, 0, 10),
		lose(8, 11, 1, 3), erase(9, 11, 1, 12), inMargin(10, 12, 2, 13), wear(11, 13, 3, 4), inMargin(12, 13, 4, 14), lose(13, 14, 4, 4), erase(14, api.MaxDay, 0, 15))
	for _, x := range []struct {
		line, day int
		words     []int
	}{
		{0, 0, []int{1, 6}}, {0, 1, []int{1, 6}}, {0, 2, []int{1, 7}}, {0, 3, []int{1, 7}},
		{0, 4, []int{7}}, {0, 5, []int{7}}, {0, 6, []int{8}}, {0, 7, []int{8}}, {0, 8, []int{8}}, {0, 9, []int{8, 9}}, {0, 10, []int{10}},
		{0, api.MaxDay - 1, []int{10}}, {0, api.MaxDay, []int{15}},
		{1, 3, []int{2}}, {1, 4, nil}, {1, 10, nil}, {1, 11, nil}, {1, api.MaxDay, nil},
		{2, 10, []int{3}}, {2, 11, nil}, {2, 12, nil}, {3, 10, []int{4}}, {3, 13, nil},
		{4, 12, []int{5}}, {4, 13, []int{14}}, {4, 14, nil},
	} {
		l, e := state.Reads(s, x.line, x.day)
		wantErr(t, "Reads", e, api.OK)
		want(t, "Reads", l, x.words)
	}
	for _, x := range []struct {
		day   int
		words []int
	}{{9, []int{12}}, {10, []int{12, 22}}, {29, []int{12, 22}}, {30, []int{22}}} {
		l, e := state.Reads(example(), 1, x.day)
		wantErr(t, "Reads of the example", e, api.OK)
		want(t, "Reads of the example", l, x.words)
	}
}

// TestOneDay is of P3.2: changes of one day happen in order.
func TestOneDay(t *testing.T) {
	for _, x := range []struct {
		alters []api.Alter
		words  []int
	}{
		{[]api.Alter{erase(1, 5, 0, 2), wear(2, 5, 0, 0)}, nil},
		{[]api.Alter{wear(1, 5, 0, 0), erase(2, 5, 0, 2)}, []int{2}},
		{[]api.Alter{inMargin(1, 5, 0, 2), erase(2, 5, 0, 3)}, []int{3}},
		{[]api.Alter{erase(1, 5, 0, 3), inMargin(2, 5, 0, 2)}, []int{3, 2}},
		{[]api.Alter{lose(1, 5, 0, 0), erase(2, 5, 0, 3)}, nil},
		{[]api.Alter{erase(1, 5, 0, 2), erase(2, 5, 0, 1)}, []int{1}},
	} {
		s := sheet([]int{1}, x.alters...)
		for day, should := range map[int][]int{4: {1}, 5: x.words, 6: x.words} {
			l, e := state.Reads(s, 0, day)
			wantErr(t, "Reads", e, api.OK)
			want(t, "Reads", l, should)
		}
	}
	// What is undone on the same day was never to be read.
	s := sheet([]int{1}, erase(1, 5, 0, 2), erase(2, 5, 0, 1))
	for word, should := range [][]api.Span{nil, {span(0, api.MaxDay)}, nil} {
		l, e := state.When(s, 0, word)
		wantErr(t, "When", e, api.OK)
		want(t, "When", l, should)
	}
}

// TestWhen is of P3.2.
func TestWhen(t *testing.T) {
	s := sheet([]int{1, 5}, inMargin(1, 3, 0, 2), erase(2, 5, 0, 2), inMargin(3, 7, 0, 1), wear(4, 9, 0, 0), erase(5, 12, 0, 1), lose(6, 20, 0, 0), erase(7, 30, 0, 1), erase(8, api.MaxDay, 1, 6), wear(9, api.MaxDay, 0, 0))
	for _, x := range []struct {
		line, word int
		spans      []api.Span
	}{
		{0, 1, []api.Span{span(0, 4), span(7, 19)}},
		{0, 2, []api.Span{span(3, 8)}},
		{0, 0, []api.Span{span(20, api.MaxDay)}},
		{0, 3, nil},
		{0, api.MaxWord, nil},
		{1, 5, []api.Span{span(0, api.MaxDay-1)}},
		{1, 6, []api.Span{span(api.MaxDay, api.MaxDay)}},
		{1, 0, nil},
	} {
		l, e := state.When(s, x.line, x.word)
		wantErr(t, "When", e, api.OK)
		want(t, "When", l, x.spans)
	}
	for _, x := range []struct {
		line, word int
		spans      []api.Span
	}{{0, 11, []api.Span{span(0, 29)}}, {3, 0, []api.Span{span(40, api.MaxDay)}}, {1, 22, []api.Span{span(10, api.MaxDay)}}, {2, 13, []api.Span{span(0, 19)}}} {
		l, e := state.When(example(), x.line, x.word)
		wantErr(t, "When of the example", e, api.OK)
		want(t, "When of the example", l, x.spans)
	}
}

// TestLineErrors is of P3.2 and P3.7: what is not a line, a day, or a word.
func TestLineErrors(t *testing.T) {
	s := example()
	clash := copied(0, 100, 2, 0, 12, 13, 14)
	for _, n := range []int{-1, 4, math.MinInt, math.MaxInt} {
		l, e := state.Reads(s, n, 0)
		check(t, "Reads", e, api.ErrArg, len(l) > 0)
		spans, e := state.When(s, n, 0)
		check(t, "When", e, api.ErrArg, len(spans) > 0)
		for _, c := range []api.Copied{exampleCopy(), clash} {
			spans, e = state.Possible(s, c, n)
			check(t, "Possible", e, api.ErrArg, len(spans) > 0)
		}
	}
	for _, day := range []int{-1, api.MaxDay + 1, math.MinInt, math.MaxInt} {
		l, e := state.Reads(s, 0, day)
		check(t, "Reads", e, api.ErrArg, len(l) > 0)
	}
	for _, word := range []int{-1, api.MaxWord + 1, math.MinInt, math.MaxInt} {
		l, e := state.When(s, 0, word)
		check(t, "When", e, api.ErrArg, len(l) > 0)
	}
}

// TestReading is of P3.2 and P3.14, for many sheets: a line reads what the document says, at most two words, and the same between changes; and its words on just the days of When.
func TestReading(t *testing.T) {
	r := rand.New(rand.NewSource(14))
	for range 150 {
		s := someSheet(r, 1+r.Intn(5), r.Intn(12), 3, 20)
		for line := range s.Words {
			on := make([][]int, 4) // the days on which each word can be copied
			var before []int
			for day := range api.MaxDay + 1 {
				if day > 25 && day%50 != 0 && day < api.MaxDay {
					continue
				}
				l, e := state.Reads(s, line, day)
				wantErr(t, "Reads", e, api.OK)
				want(t, "Reads", l, reads(s, line, day))
				happens := slices.ContainsFunc(s.Alters, func(a api.Alter) bool { return a.Day == day })
				if len(l) > 2 || day > 0 && !happens && !slices.Equal(l, before) {
					t.Error("P3.14: Reads", s, line, day, l, before)
				}
				before = l
			}
			for word := range on {
				for day := range api.MaxDay + 1 {
					if canCopy(s, line, word, day) {
						on[word] = append(on[word], day)
					}
				}
				l, e := state.When(s, line, word)
				wantErr(t, "When", e, api.OK)
				want(t, "When", l, spansOf(on[word]))
			}
		}
	}
}

// TestAdd is of P3.11.
func TestAdd(t *testing.T) {
	for _, x := range []struct {
		a  api.Alter
		at int
	}{
		{wear(9, 0, 0, 3), 0}, {wear(9, 9, 0, 0), 0}, {erase(9, 10, 0, 1), 1}, {lose(9, 11, 0, 0), 1},
		{inMargin(9, 30, 3, 5), 3}, {inMargin(9, 39, 3, 5), 3}, {inMargin(9, 40, 3, 5), 4}, {wear(api.MaxID, api.MaxDay, 3, 3), 4},
	} {
		should := example()
		should.Alters = slices.Insert(should.Alters, x.at, x.a)
		s, e := state.Add(example(), x.a)
		wantErr(t, "Add", e, api.OK)
		wantSheet(t, "Add", s, should)
	}
	s, e := state.Add(sheet([]int{3}), erase(1, 5, 0, 4))
	wantErr(t, "Add to no changes", e, api.OK)
	wantSheet(t, "Add to no changes", s, sheet([]int{3}, erase(1, 5, 0, 4)))
	most := sheet([]int{1}, manyAlters(api.MaxAlters-1)...)
	s, e = state.Add(most, wear(99, 0, 0, 0))
	wantErr(t, "Add the last one", e, api.OK)
	want(t, "Add the last one", s.Alters[1], wear(99, 0, 0, 0))
	want(t, "Add the last one", len(s.Alters), api.MaxAlters)
}

// TestAddErrors is of P3.11.
func TestAddErrors(t *testing.T) {
	for what, x := range map[string]struct {
		a api.Alter
		e api.Errno
	}{
		"nothing":           {api.Alter{}, api.ErrArg},
		"day -1":            {wear(9, -1, 0, 0), api.ErrArg},
		"day too great":     {wear(9, api.MaxDay+1, 0, 0), api.ErrArg},
		"greatest day":      {wear(9, math.MaxInt, 0, 0), api.ErrArg},
		"line 4":            {erase(9, 15, 4, 1), api.ErrArg},
		"word 0":            {erase(9, 15, 3, 0), api.ErrArg},
		"ID 0":              {erase(0, 15, 3, 1), api.ErrArg},
		"twice":             {erase(1, 15, 3, 1), api.ErrTwice},
		"twice, ahead":      {erase(4, 15, 3, 1), api.ErrTwice},
		"twice and wrong":   {erase(4, 15, 4, 1), api.ErrArg},
		"twice, first day":  {wear(1, 0, 0, 0), api.ErrTwice},
		"twice, last day":   {wear(1, api.MaxDay, 0, 0), api.ErrTwice},
		"wrong behind many": {lose(4, 50, 3, 2), api.ErrArg},
	} {
		s, e := state.Add(example(), x.a)
		check(t, what, e, x.e, !zeroSheet(s))
	}
	most := sheet([]int{1}, manyAlters(api.MaxAlters)...)
	for _, a := range []api.Alter{wear(99, 0, 0, 0), wear(1, 0, 0, 0), {}} {
		s, e := state.Add(most, a)
		check(t, "Add one too many", e, api.ErrLimit, !zeroSheet(s))
	}
}

// TestWithout is of P3.11.
func TestWithout(t *testing.T) {
	l := example().Alters
	for _, x := range []struct {
		ids  []int
		left []api.Alter
	}{
		{nil, l},
		{[]int{0, -1, 5, math.MaxInt}, l},
		{[]int{2}, []api.Alter{l[0], l[2], l[3]}},
		{[]int{4, 1, 4}, []api.Alter{l[1], l[2]}},
		{[]int{1, 2, 3, 4, 5}, nil},
	} {
		s, e := state.Without(example(), x.ids)
		wantErr(t, "Without", e, api.OK)
		wantSheet(t, "Without", s, sheet(example().Words, x.left...))
	}
	fall := sheet([]int{1}, wear(3, 1, 0, 0), wear(2, 1, 0, 0), wear(1, 1, 0, 0))
	s, e := state.Without(fall, []int{2})
	wantErr(t, "Without", e, api.OK)
	wantSheet(t, "Without keeps the order", s, sheet([]int{1}, wear(3, 1, 0, 0), wear(1, 1, 0, 0)))
}

// TestAddWithout is of P3.11, for many sheets: what is added is behind all that is not later, and without it the sheet is as before.
func TestAddWithout(t *testing.T) {
	r := rand.New(rand.NewSource(11))
	for range 300 {
		s := someSheet(r, 1+r.Intn(6), r.Intn(api.MaxAlters), 9, 30)
		a := inMargin(api.MaxID-r.Intn(9), r.Intn(31), r.Intn(len(s.Words)), 1+r.Intn(9))
		more, e := state.Add(s, a)
		wantErr(t, "Add", e, api.OK)
		at := slices.Index(more.Alters, a)
		if at < 0 || at > 0 && more.Alters[at-1].Day > a.Day || at+1 < len(more.Alters) && more.Alters[at+1].Day <= a.Day {
			t.Error("Add", s, a, more)
		}
		less, e := state.Without(more, []int{a.ID})
		wantErr(t, "Without", e, api.OK)
		wantSheet(t, "Without what was added", less, s)
	}
}
