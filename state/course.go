package state

import (
	"slices"

	"pecia/api"
)

// never is behind all days.
const never = api.MaxDay + 1

// A course is, for each line of a copy, the days from its beginning to its end on which the word can be copied, and how many lines are copied in a day at most.
type course struct {
	open   [][]api.Span
	perDay int
}

// courseOf returns the course of a copy that is valid for a sheet.
func courseOf(s api.Sheet, c api.Copied) course {
	x := course{perDay: c.PerDay}
	for line, word := range c.Words {
		all := joined(copyable(s, line, word))
		x.open = append(x.open, cut(all, api.Span{Lo: c.Begin, Hi: c.End}))
	}
	return x
}

func (c course) isOpen(line, day int) bool {
	return slices.ContainsFunc(c.open[line], func(x api.Span) bool { return within(day, x.Lo, x.Hi) })
}

// next returns the first day from a day on that is open for a line, or never.
func (c course) next(line, from int) int {
	x, is := find(c.open[line], func(x api.Span) bool { return from <= x.Hi })
	if !is {
		return never
	}
	return max(from, x.Lo)
}

// lowest returns the least day for a line by the days, or floors, of the lines before it.
func (c course) lowest(line int, days []int) int {
	day := 0
	if line >= 1 {
		day = days[line-1]
	}
	if line >= c.perDay {
		day = max(day, days[line-c.perDay]+1)
	}
	return day
}

// earliest returns the earliest days from a day on, for as many lines as have some.
func (c course) earliest(from int) []int {
	var days []int
	for line := range c.open {
		day := c.next(line, max(from, c.lowest(line, days)))
		if day == never {
			break
		}
		days = append(days, day)
	}
	return days
}

// canBeMade reports whether some days fit.
func (c course) canBeMade() bool { return len(c.earliest(0)) == len(c.open) }

// latest returns the latest days of a course that can be made.
func (c course) latest() []int { return mirroredDays(c.mirrored().earliest(0)) }

// hold reports whether floors hold.
func (c course) hold(floors []int) bool {
	floors = clamped(floors)
	for line, floor := range floors {
		if c.next(line, c.lowest(line, floors)) < floor {
			return false
		}
	}
	return true
}

// mirrored returns the course whose lines and days run the other way: what is earliest there is latest here, and floors there are ceilings here.
func (c course) mirrored() course {
	m := course{perDay: c.perDay}
	for _, open := range slices.Backward(c.open) {
		var spans []api.Span
		for _, x := range slices.Backward(open) {
			spans = append(spans, api.Span{Lo: api.MaxDay - x.Hi, Hi: api.MaxDay - x.Lo})
		}
		m.open = append(m.open, spans)
	}
	return m
}

// mirroredDays returns days line by line as a mirrored course counts them.
func mirroredDays(days []int) []int {
	var l []int
	for _, day := range slices.Backward(days) {
		l = append(l, api.MaxDay-day)
	}
	return l
}

// clamped returns numbers no farther from the days than the next ones. Against days they compare as before, and sums with them are not too great.
func clamped(numbers []int) []int {
	var l []int
	for _, n := range numbers {
		l = append(l, min(max(n, -1), never))
	}
	return l
}
