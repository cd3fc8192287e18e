package mend

import "pecia/api"

// Can reports whether some flaws can all be mended.
func Can(t api.Tour, ids []int) (bool, api.Errno) {
	_, is, e := Jam(t, ids)
	return e == api.OK && !is, e
}

// Jam returns a span of days with more of some flaws than can be mended on them. (Where there is none, they can be mended, as the days of each flaw are a span.)
func Jam(t api.Tour, ids []int) (api.Span, bool, api.Errno) {
	if e := checkList(t, ids); e != api.OK {
		return api.Span{}, false, e
	}
	isJam := jamsOf(t, ids)
	for lo := range t.Days {
		for hi := lo; hi < t.Days; hi++ {
			if s := (api.Span{Lo: lo, Hi: hi}); isJam(s) {
				return s, true, api.OK
			}
		}
	}
	return api.Span{}, false, api.OK
}

// CheckJam returns OK if a span has more of some flaws than can be mended on its days.
func CheckJam(t api.Tour, ids []int, s api.Span) api.Errno {
	if e := checkList(t, ids); e != api.OK {
		return e
	}
	if isJam := jamsOf(t, ids); !isJam(s) {
		return api.ErrProof
	}
	return api.OK
}

// jamsOf returns a closure that reports whether a span is a jam of some flaws.
func jamsOf(t api.Tour, ids []int) func(api.Span) bool {
	p, at := planOf(t, t.Closed), indices(t)
	return func(s api.Span) bool {
		if !isSpan(t, s) {
			return false
		}
		n := 0
		for _, id := range ids {
			if liesIn(t.Flaws[at[id]].Days, s) {
				n++
			}
		}
		return n > p.room(s)
	}
}
