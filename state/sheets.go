package state

import "pecia/api"

// Sources returns the sheets of which a copy can have been made.
func Sources(l []api.Sheet, c api.Copied) ([]int, api.Errno) {
	if e := checkSheets(l); e != api.OK {
		return nil, e
	}
	var sources []int
	for i, s := range l {
		if CheckCopy(s, c) == api.OK && courseOf(s, c).canBeMade() {
			sources = append(sources, i)
		}
	}
	return sources, api.OK
}

func checkSheets(l []api.Sheet) api.Errno {
	if len(l) > api.MaxSheets {
		return api.ErrLimit
	}
	for _, s := range l {
		if e := Check(s); e != api.OK {
			return e
		}
	}
	return api.OK
}

// checkMixture returns the first error of sheets, and a copy whose lines come from all of them.
func checkMixture(l []api.Sheet, c api.Copied) api.Errno {
	if e := checkSheets(l); e != api.OK {
		return e
	}
	if len(l) == 0 {
		return api.ErrArg
	}
	for _, s := range l {
		if e := CheckCopy(s, c); e != api.OK {
			return e
		}
	}
	return api.OK
}

func coursesOf(l []api.Sheet, c api.Copied) []course {
	var courses []course
	for _, s := range l {
		courses = append(courses, courseOf(s, c))
	}
	return courses
}

// A round is, for each line and each sheet, the earliest day on which the line can be copied from the sheet, or never, with at most one change of sheets more than in the round with one less; with none, if there is no such round.
type round struct {
	days [][]int
	less *round
}

// roundOf returns the round behind another one.
func roundOf(courses []course, less *round) *round {
	r := &round{make([][]int, len(courses[0].open)), less}
	for line := range r.days {
		for sheet, c := range courses {
			from := 0
			if line > 0 {
				own, other := r.before(line, sheet)
				from = own.days[line-1][other]
			}
			r.days[line] = append(r.days[line], c.next(line, from))
		}
	}
	return r
}

// soonest returns the sheet from which a line can be copied the earliest.
func (r *round) soonest(line int) int {
	soonest := 0
	for sheet, day := range r.days[line] {
		if day < r.days[line][soonest] {
			soonest = sheet
		}
	}
	return soonest
}

// before returns in which round, and from which sheet, the line before one is copied, so that this one can be copied from a sheet the earliest.
func (r *round) before(line, sheet int) (*round, int) {
	if r.less != nil {
		other := r.less.soonest(line - 1)
		if r.less.days[line-1][other] < r.days[line-1][sheet] {
			return r.less, other
		}
	}
	return r, sheet
}

// trace returns sources for the lines with which the last one is copied the earliest.
func (r *round) trace() (from, days []int) {
	end := len(r.days) - 1
	from, days = make([]int, end+1), make([]int, end+1)
	sheet := r.soonest(end)
	for line := end; line > 0; line-- {
		from[line], days[line] = sheet, r.days[line][sheet]
		r, sheet = r.before(line, sheet)
	}
	from[0], days[0] = sheet, r.days[0][sheet]
	return from, days
}

// Mixed returns from which sheets the lines of a copy were copied, and on which days, with the fewest changes of sheets.
func Mixed(l []api.Sheet, c api.Copied) ([]int, []int, int, api.Errno) {
	if e := checkMixture(l, c); e != api.OK {
		return nil, nil, 0, e
	}
	courses := coursesOf(l, c)
	end := len(c.Words) - 1
	var r *round
	for changes := range c.Words {
		r = roundOf(courses, r)
		if r.days[end][r.soonest(end)] < never {
			from, days := r.trace()
			return from, days, changes, api.OK
		}
	}
	return nil, nil, 0, api.ErrClash
}

// CheckMixed returns how many changes of sheets there are, if lines can have been copied so.
func CheckMixed(l []api.Sheet, c api.Copied, from, days []int) (int, api.Errno) {
	if e := checkMixture(l, c); e != api.OK {
		return 0, e
	}
	if len(from) != len(c.Words) || len(days) != len(c.Words) {
		return 0, api.ErrArg
	}
	for _, sheet := range from {
		if !within(sheet, 0, len(l)-1) {
			return 0, api.ErrArg
		}
	}
	courses := coursesOf(l, c)
	changes := 0
	for line, sheet := range from {
		if !courses[sheet].isOpen(line, days[line]) || line > 0 && days[line] < days[line-1] {
			return 0, api.ErrProof
		}
		if line > 0 && sheet != from[line-1] {
			changes++
		}
	}
	return changes, api.OK
}
