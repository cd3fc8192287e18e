package state

import (
	"iter"
	"slices"

	"pecia/api"
)

// The indices of the two words that a line can have.
const (
	text = iota
	margin
)

// A content is what a line has: its text and its margin, 0 for nothing.
type content struct {
	words [2]int
	lost  bool
}

// after returns what a line has behind a change that happens to it.
func (c content) after(a api.Alter) content {
	if c.lost {
		return c
	}
	switch a.Kind {
	case api.AlWear:
		c.words[text] = 0
	case api.AlLose:
		c = content{lost: true}
	case api.AlMargin:
		c.words[margin] = a.Word
	case api.AlErase:
		c.words = [2]int{text: a.Word}
	}
	return c
}

// reads returns the words that can be read, the text first.
func (c content) reads() []int {
	var l []int
	for _, w := range c.words {
		if w != 0 && !slices.Contains(l, w) {
			l = append(l, w)
		}
	}
	return l
}

// offers reports whether a word, or nothing, can be copied.
func (c content) offers(word int) bool {
	if word == 0 {
		return c.words == [2]int{}
	}
	return slices.Contains(c.words[:], word)
}

// A stretch is days on which a line has the same.
type stretch struct {
	days api.Span
	has  content
}

// stretches yields what a line has, from the first day to the last one.
func stretches(s api.Sheet, line int) iter.Seq[stretch] {
	return func(yield func(stretch) bool) {
		begin, has := 0, content{words: [2]int{text: s.Words[line]}}
		for _, a := range s.Alters {
			if !within(line, a.From, a.To) {
				continue
			}
			next := has.after(a)
			if next == has {
				continue
			}
			// Of what a line has between changes of one day nothing can be read.
			if begin < a.Day && !yield(stretch{api.Span{Lo: begin, Hi: a.Day - 1}, has}) {
				return
			}
			begin, has = a.Day, next
		}
		yield(stretch{api.Span{Lo: begin, Hi: api.MaxDay}, has})
	}
}

// history returns a closure that tells what a line reads on a day.
func history(s api.Sheet, line int) func(day int) []int {
	all := slices.Collect(stretches(s, line))
	return func(day int) []int {
		x, _ := find(all, func(x stretch) bool { return day <= x.days.Hi })
		return x.has.reads()
	}
}

// find returns the first one of a list that a closure accepts, if there is one.
func find[T any](l []T, accepts func(T) bool) (T, bool) {
	for _, x := range l {
		if accepts(x) {
			return x, true
		}
	}
	var none T
	return none, false
}

// copyable yields, in order, spans of the days on which a word can be copied from a line.
func copyable(s api.Sheet, line, word int) iter.Seq[api.Span] {
	return func(yield func(api.Span) bool) {
		for x := range stretches(s, line) {
			if x.has.offers(word) && !yield(x.days) {
				return
			}
		}
	}
}

// joined returns the days of spans that stand in order as the fewest spans.
func joined(spans iter.Seq[api.Span]) []api.Span {
	var l []api.Span
	for x := range spans {
		if last := len(l) - 1; last >= 0 && l[last].Hi+1 == x.Lo {
			l[last].Hi = x.Hi
		} else {
			l = append(l, x)
		}
	}
	return l
}

// cut returns what of spans lies within another one.
func cut(spans []api.Span, to api.Span) []api.Span {
	var l []api.Span
	for _, x := range spans {
		x = api.Span{Lo: max(x.Lo, to.Lo), Hi: min(x.Hi, to.Hi)}
		if x.Lo <= x.Hi {
			l = append(l, x)
		}
	}
	return l
}

// Reads returns the words that can be read in a line on a day.
func Reads(s api.Sheet, line, day int) ([]int, api.Errno) {
	if e := checkLine(s, line); e != api.OK {
		return nil, e
	}
	if !within(day, 0, api.MaxDay) {
		return nil, api.ErrArg
	}
	reads := history(s, line)
	return reads(day), api.OK
}

// When returns the days on which a word can be copied from a line.
func When(s api.Sheet, line, word int) ([]api.Span, api.Errno) {
	if e := checkLine(s, line); e != api.OK {
		return nil, e
	}
	if !within(word, 0, api.MaxWord) {
		return nil, api.ErrArg
	}
	return joined(copyable(s, line, word)), api.OK
}

// checkLine returns the first error of a sheet, and one of its lines.
func checkLine(s api.Sheet, line int) api.Errno {
	if e := Check(s); e != api.OK {
		return e
	}
	if !within(line, 0, len(s.Words)-1) {
		return api.ErrArg
	}
	return api.OK
}
