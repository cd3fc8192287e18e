package state

import "pecia/api"

// An extent is the course of a copy that can have been made, and its earliest and latest days.
type extent struct {
	course      course
	first, last []int
}

// extentOf returns the extent of a copy; or the first error, ErrClash if it cannot have been made.
func extentOf(s api.Sheet, c api.Copied) (extent, api.Errno) {
	if e := CheckCopy(s, c); e != api.OK {
		return extent{}, e
	}
	x := courseOf(s, c)
	if !x.canBeMade() {
		return extent{}, api.ErrClash
	}
	return extent{x, x.earliest(0), x.latest()}, api.OK
}

// Fits reports whether a copy can have been made on some days, line by line.
func Fits(s api.Sheet, c api.Copied, days []int) (int, bool, api.Errno) {
	if e := CheckCopy(s, c); e != api.OK {
		return 0, false, e
	}
	if len(days) != len(c.Words) {
		return 0, false, api.ErrArg
	}
	x := courseOf(s, c)
	for line, day := range days {
		if !x.isOpen(line, day) || day < x.lowest(line, days) {
			return line, false, api.OK
		}
	}
	return 0, true, api.OK
}

// First returns the earliest days on which all lines can have been copied.
func First(s api.Sheet, c api.Copied) ([]int, api.Errno) {
	x, e := extentOf(s, c)
	return x.first, e
}

// Last returns the latest days on which all lines can have been copied.
func Last(s api.Sheet, c api.Copied) ([]int, api.Errno) {
	x, e := extentOf(s, c)
	return x.last, e
}

// CheckFloors returns OK if no line can have been copied before some days.
func CheckFloors(s api.Sheet, c api.Copied, floors []int) api.Errno {
	if e := CheckCopy(s, c); e != api.OK {
		return e
	}
	if !within(len(floors), 1, len(c.Words)) {
		return api.ErrArg
	}
	if !courseOf(s, c).hold(floors) {
		return api.ErrProof
	}
	return api.OK
}

// CheckCeilings returns OK if no line can have been copied after some days.
func CheckCeilings(s api.Sheet, c api.Copied, ceilings []int) api.Errno {
	if e := CheckCopy(s, c); e != api.OK {
		return e
	}
	if len(ceilings) != len(c.Words) {
		return api.ErrArg
	}
	if !courseOf(s, c).mirrored().hold(mirroredDays(clamped(ceilings))) {
		return api.ErrProof
	}
	return api.OK
}

// Clash returns what shows that a copy cannot have been made of a sheet.
func Clash(s api.Sheet, c api.Copied) ([]int, bool, api.Errno) {
	if e := CheckCopy(s, c); e != api.OK {
		return nil, false, e
	}
	x := courseOf(s, c)
	if x.canBeMade() {
		return nil, false, api.OK
	}
	return append(x.earliest(0), c.End+1), true, api.OK
}

// CheckClash returns OK if days show that a copy cannot have been made of a sheet.
func CheckClash(s api.Sheet, c api.Copied, floors []int) api.Errno {
	if e := CheckFloors(s, c, floors); e != api.OK {
		return e
	}
	if floors[len(floors)-1] <= c.End {
		return api.ErrProof
	}
	return api.OK
}

// Possible returns the days on which a line can have been copied.
func Possible(s api.Sheet, c api.Copied, line int) ([]api.Span, api.Errno) {
	if e := CheckCopy(s, c); e != api.OK {
		return nil, e
	}
	if e := checkLine(s, line); e != api.OK {
		return nil, e
	}
	x, e := extentOf(s, c)
	if e != api.OK {
		return nil, e
	}
	return x.possible(line), api.OK
}

// possible returns the days of a line. (On each open one between the first and the last one the lines before it can have their earliest days, and those behind it their latest ones.)
func (x extent) possible(line int) []api.Span {
	return cut(x.course.open[line], api.Span{Lo: x.first[line], Hi: x.last[line]})
}

// Long returns how many days lie between the first line and the last one, at least and at most.
func Long(s api.Sheet, c api.Copied) (api.Span, api.Errno) {
	x, e := extentOf(s, c)
	if e != api.OK {
		return api.Span{}, e
	}
	end := len(c.Words) - 1
	if end == 0 { // one line cannot have its earliest and its latest day together
		return api.Span{}, api.OK
	}
	return api.Span{Lo: x.shortest(), Hi: x.last[end] - x.first[0]}, api.OK
}

// shortest returns by how much the day of the last line is greater than that of the first one at least.
func (x extent) shortest() int {
	end := len(x.first) - 1
	bound := end / x.course.perDay // fewer days do not suffice for so many lines
	least := never
search:
	for _, span := range x.possible(0) {
		for begin := span.Lo; begin <= span.Hi; begin++ {
			days := x.course.earliest(begin)
			least = min(least, days[end]-begin)
			if least == bound {
				break search
			}
		}
	}
	return least
}
