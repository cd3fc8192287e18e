package descent_test

import (
	"math"
	"math/rand"
	"slices"
	"testing"

	"pecia/api"
	"pecia/descent"
)

// rows is so many copies in a row, each one made behind the one before.
func rows(n int) api.Stock {
	var s api.Stock
	for i := range n {
		s.Copies = append(s.Copies, made(i+1, i, i))
	}
	return s
}

// rightStocks is stocks at the limits.
func rightStocks() map[string]api.Stock {
	most := from(mended(made(api.MaxID, 0, api.MaxDay, upTo(1, api.MaxMarks)...), upTo(101, 100+api.MaxMarks)...), upTo(0, api.MaxModels-1)...)
	return map[string]api.Stock{
		"nothing":             {},
		"no copies":           {Copies: []api.Witness{}},
		"the example":         example(),
		"the crossed one":     crossed(),
		"one with an orphan":  orphaned(),
		"as many copies":      rows(api.MaxCopies),
		"a copy with most":    stock(known(most, api.MaxDay)),
		"first day":           stock(made(1, 0, 0)),
		"last day":            stock(made(1, api.MaxDay, api.MaxDay)),
		"greatest slips":      stock(mended(made(1, 0, 0, 1, api.MaxID), 2, api.MaxID-1)),
		"greatest model":      stock(from(made(1, 0, 0), 0, 2, api.MaxID)),
		"other models":        stock(from(made(5, 0, 0), 4), from(made(6, 0, 0), 5, 7)),
		"falling IDs":         stock(made(9, 0, 0), made(8, 0, 0), made(1, 0, 0)),
		"mended in other one": stock(made(1, 0, 0, 7), mended(made(2, 1, 1), 7)),
	}
}

// wrongStocks is stocks with an error, and which one.
func wrongStocks() map[string]struct {
	s api.Stock
	e api.Errno
} {
	one := func(c api.Witness, e api.Errno) struct {
		s api.Stock
		e api.Errno
	} {
		return struct {
			s api.Stock
			e api.Errno
		}{stock(made(1, 0, 0), c), e}
	}
	all := func(e api.Errno, copies ...api.Witness) struct {
		s api.Stock
		e api.Errno
	} {
		return struct {
			s api.Stock
			e api.Errno
		}{stock(copies...), e}
	}
	right := made(2, 3, 4, 10)
	many := upTo(1, api.MaxMarks+1)
	same := slices.Repeat([]int{7}, api.MaxMarks+1)
	return map[string]struct {
		s api.Stock
		e api.Errno
	}{
		"too many copies":            all(api.ErrLimit, rows(api.MaxCopies+1).Copies...),
		"too many wrong ones":        all(api.ErrLimit, make([]api.Witness, api.MaxCopies+1)...),
		"ID 0":                       one(made(0, 3, 4), api.ErrArg),
		"ID -1":                      one(made(-1, 3, 4), api.ErrArg),
		"ID too great":               one(made(api.MaxID+1, 3, 4), api.ErrArg),
		"least ID":                   one(made(math.MinInt, 3, 4), api.ErrArg),
		"greatest ID":                one(made(math.MaxInt, 3, 4), api.ErrArg),
		"zero":                       one(api.Witness{}, api.ErrArg),
		"known -1":                   one(known(right, -1), api.ErrArg),
		"known too late":             one(known(right, api.MaxDay+1), api.ErrArg),
		"made from -1":               one(made(2, -1, 4), api.ErrArg),
		"made too late":              one(made(2, 3, api.MaxDay+1), api.ErrArg),
		"made on no days":            one(made(2, 4, 3), api.ErrArg),
		"made on no days at the end": one(made(2, api.MaxDay+1, api.MaxDay), api.ErrArg),
		"made on day -1":             one(made(2, -1, -1), api.ErrArg),
		"too many slips":             one(made(2, 3, 4, many...), api.ErrLimit),
		"too many mended":            one(mended(made(2, 3, 4), many...), api.ErrLimit),
		"too many models":            one(from(right, append(list(0), upTo(3, api.MaxModels+2)...)...), api.ErrLimit),
		"wrong ID, too many":         one(made(0, 3, 4, many...), api.ErrArg),
		"wrong day, too many":        one(known(mended(right, many...), -1), api.ErrArg),
		"too many wrong slips":       one(made(2, 3, 4, same...), api.ErrLimit),
		"too many wrong mended":      one(mended(right, same...), api.ErrLimit),
		"too many wrong models":      one(from(right, same...), api.ErrLimit),
		"wrong slips, many mended":   one(mended(made(2, 3, 4, 7, 7), many...), api.ErrLimit),
		"wrong slips, many models":   one(from(made(2, 3, 4, 0), upTo(100, 100+api.MaxModels)...), api.ErrLimit),
		"a slip twice":               one(made(2, 3, 4, 7, 7), api.ErrArg),
		"falling slips":              one(made(2, 3, 4, 8, 7), api.ErrArg),
		"falling at the end":         one(made(2, 3, 4, 1, 2, 3, 2), api.ErrArg),
		"slip 0":                     one(made(2, 3, 4, 0), api.ErrArg),
		"slip -1":                    one(made(2, 3, 4, -1, 5), api.ErrArg),
		"slip too great":             one(made(2, 3, 4, 5, api.MaxID+1), api.ErrArg),
		"mended twice":               one(mended(right, 7, 7), api.ErrArg),
		"falling mended":             one(mended(right, 8, 7), api.ErrArg),
		"mended 0":                   one(mended(right, 0), api.ErrArg),
		"mended -1":                  one(mended(right, -1), api.ErrArg),
		"mended too great":           one(mended(right, api.MaxID+1), api.ErrArg),
		"a slip that is mended":      one(mended(right, 10), api.ErrArg),
		"some slip that is mended":   one(mended(made(2, 3, 4, 1, 5, 9), 2, 9, 11), api.ErrArg),
		"a model twice":              one(from(right, 1, 1), api.ErrArg),
		"the first text twice":       one(from(right, 0, 0), api.ErrArg),
		"falling models":             one(from(right, 1, 0), api.ErrArg),
		"model -1":                   one(from(right, -1), api.ErrArg),
		"model too great":            one(from(right, 0, api.MaxID+1), api.ErrArg),
		"its own model":              one(from(right, 2), api.ErrArg),
		"its own model, too":         one(from(right, 0, 1, 2, 3), api.ErrArg),
		"an ID twice":                one(made(1, 5, 6), api.ErrTwice),
		"an ID twice, wrong models":  one(from(made(1, 5, 6), 1), api.ErrArg),
		"an ID twice, many slips":    one(made(1, 5, 6, many...), api.ErrLimit),
		"twice, then wrong":          all(api.ErrTwice, right, right, made(0, 0, 0)),
		"twice, not side by side":    all(api.ErrTwice, right, made(9, 0, 0), right),
		"wrong, then twice":          all(api.ErrArg, right, made(0, 0, 0), right),
		"wrong slips, then too many": all(api.ErrArg, made(1, 0, 0, 0), made(2, 0, 0, many...)),
		"too many, then wrong":       all(api.ErrLimit, made(1, 0, 0, many...), made(0, 0, 0)),
		"a wrong one at last":        all(api.ErrArg, append(rows(api.MaxCopies-1).Copies, made(99, 1, 0))...),
	}
}

// TestCheck is of P5.1.
func TestCheck(t *testing.T) {
	for what, s := range rightStocks() {
		wantErr(t, "Check of "+what, descent.Check(s), api.OK)
	}
	for what, x := range wrongStocks() {
		wantErr(t, "Check: "+what, descent.Check(x.s), x.e)
	}
}

// call is a call of a function for a stock: its error, and whether it returns anything else.
type call func(s api.Stock) (api.Errno, bool)

// callsWith is a call of each function with a stock, with the other arguments from a copy, a parent, a slip, and a descent.
func callsWith(child, parent, slip int, d api.Descent) map[string]call {
	k := kin(child, parent)
	return map[string]call{
		"Slips":      func(s api.Stock) (api.Errno, bool) { l, e := descent.Slips(s); return e, len(l) > 0 },
		"Holders":    func(s api.Stock) (api.Errno, bool) { l, e := descent.Holders(s, slip); return e, len(l) > 0 },
		"Cross":      func(s api.Stock) (api.Errno, bool) { x, is, e := descent.Cross(s); return e, is || x != api.Crossing{} },
		"CheckCross": func(s api.Stock) (api.Errno, bool) { return descent.CheckCross(s, api.Crossing{}), false },
		"Tree":       func(s api.Stock) (api.Errno, bool) { x, e := descent.Tree(s); return e, len(x.Branches) > 0 },
		"CheckTree":  func(s api.Stock) (api.Errno, bool) { return descent.CheckTree(s, api.Tree{}), false },
		"CheckTree, too many": func(s api.Stock) (api.Errno, bool) {
			return descent.CheckTree(s, api.Tree{Branches: make([]api.Branch, 2*api.MaxCopies+1)}), false
		},
		"Lost":      func(s api.Stock) (api.Errno, bool) { n, e := descent.Lost(s); return e, n != 0 },
		"Drop":      func(s api.Stock) (api.Errno, bool) { l, e := descent.Drop(s); return e, len(l) > 0 },
		"Can":       func(s api.Stock) (api.Errno, bool) { is, e := descent.Can(s, k); return e, is },
		"Why":       func(s api.Stock) (api.Errno, bool) { a, b, e := descent.Why(s, k); return e, a != 0 || b != 0 },
		"Models":    func(s api.Stock) (api.Errno, bool) { l, e := descent.Models(s, child); return e, len(l) > 0 },
		"Least":     func(s api.Stock) (api.Errno, bool) { n, e := descent.Least(s); return e, n != 0 },
		"Best":      func(s api.Stock) (api.Errno, bool) { x, e := descent.Best(s); return e, len(x.Parents)+x.Arise > 0 },
		"CheckBest": func(s api.Stock) (api.Errno, bool) { return descent.CheckBest(s, d), false },
		"Count":     func(s api.Stock) (api.Errno, bool) { n, e := descent.Count(s); return e, n != 0 },
		"Surely":    func(s api.Stock) (api.Errno, bool) { l, e := descent.Surely(s); return e, len(l) > 0 },
		"Possibly":  func(s api.Stock) (api.Errno, bool) { l, e := descent.Possibly(s); return e, len(l) > 0 },
		"Made":      func(s api.Stock) (api.Errno, bool) { n, e := descent.Made(s, k); return e, n != 0 },
		"Arose":     func(s api.Stock) (api.Errno, bool) { a, b, e := descent.Arose(s, slip); return e, len(a)+len(b) > 0 },
		"Twice":     func(s api.Stock) (api.Errno, bool) { l, e := descent.Twice(s); return e, len(l) > 0 },
		"From":      func(s api.Stock) (api.Errno, bool) { l, e := descent.From(s, d, child); return e, len(l) > 0 },
		"Below":     func(s api.Stock) (api.Errno, bool) { l, e := descent.Below(s, d, child); return e, len(l) > 0 },
		"Meet":      func(s api.Stock) (api.Errno, bool) { n, e := descent.Meet(s, d, child, child); return e, n != 0 },
		"Orphans":   func(s api.Stock) (api.Errno, bool) { l, e := descent.Orphans(s); return e, len(l) > 0 },
		"Rests":     func(s api.Stock) (api.Errno, bool) { l, e := descent.Rests(s, k); return e, len(l) > 0 },
		"At":        func(s api.Stock) (api.Errno, bool) { x, e := descent.At(s, 9); return e, len(x.Copies) > 0 },
		"At, no day": func(s api.Stock) (api.Errno, bool) {
			x, e := descent.At(s, -1)
			return e, len(x.Copies) > 0
		},
		"Without": func(s api.Stock) (api.Errno, bool) {
			x, e := descent.Without(s, list(child))
			return e, len(x.Copies) > 0
		},
	}
}

// TestFirstError is of P5.1 and R3: all functions return the error of Check first.
func TestFirstError(t *testing.T) {
	for what, x := range wrongStocks() {
		for _, child := range []int{1, 77} {
			for name, call := range callsWith(child, 78, 79, api.Descent{Parents: make([]int, 2)}) {
				e, more := call(x.s)
				check(t, name+": "+what, e, x.e, more)
			}
		}
	}
}

// noCopies is numbers that are not the IDs of the copies of the example, nor 0.
func noCopies() []int {
	return []int{-1, 6, 7, 10, 50, 99, api.MaxID, api.MaxID + 1, math.MaxInt, math.MinInt}
}

// TestNoCopy is of P5.1: functions with a copy return ErrNone unless it is one of the stock, ahead of other errors.
func TestNoCopy(t *testing.T) {
	wrong := []api.Descent{{}, {Parents: list(0, 0)}, {Parents: list(9, 9, 9, 9, 9)}}
	withCopy := []string{"Can", "Why", "Models", "Made", "From", "Below", "Meet", "Rests"}
	for _, s := range []api.Stock{{}, example(), less(crossed(), 6), stock(from(made(1, 0, 0), 2))} {
		for _, d := range wrong {
			for _, id := range append(noCopies(), 0) {
				calls := callsWith(id, 0, 0, d)
				for _, name := range withCopy {
					if name == "Below" && id == 0 {
						continue
					}
					e, more := calls[name](s)
					check(t, name+" of no copy", e, api.ErrNone, more)
				}
			}
			for _, id := range noCopies() {
				for name, call := range callsWith(1, id, 0, d) {
					if name == "Can" || name == "Why" || name == "Made" || name == "Rests" {
						e, more := call(s)
						check(t, name+" from no copy", e, api.ErrNone, more)
					}
				}
				for _, ids := range [][2]int{{1, id}, {id, 1}, {0, 1}, {1, 0}} {
					n, e := descent.Meet(s, d, ids[0], ids[1])
					check(t, "Meet of no copy", e, api.ErrNone, n != 0)
				}
			}
		}
	}
}

// TestNoSlip is of P5.1 and P5.8: functions with a slip return ErrNone unless a copy holds it.
func TestNoSlip(t *testing.T) {
	only := stock(mended(made(1, 0, 0, 10), 20), from(made(2, 1, 1, 10, 30), 9))
	for _, s := range []api.Stock{{}, only, less(only, 2), stock(made(20, 0, 0))} {
		for _, slip := range []int{20, 0, -1, 1, 2, 9, api.MaxID + 1, math.MaxInt, math.MinInt} {
			l, e := descent.Holders(s, slip)
			check(t, "Holders of no slip", e, api.ErrNone, len(l) > 0)
			all, some, e := descent.Arose(s, slip)
			check(t, "Arose of no slip", e, api.ErrNone, len(all)+len(some) > 0)
		}
	}
}

// TestSlips is of P5.1.
func TestSlips(t *testing.T) {
	for _, x := range []struct {
		s     api.Stock
		slips []int
	}{
		{api.Stock{}, nil},
		{stock(made(1, 0, 0)), nil},
		{stock(mended(made(1, 0, 0), 4, 5)), nil},
		{stock(mended(made(1, 0, 0, 9), 4), mended(made(2, 0, 0, 4), 7)), list(4, 9)},
		{example(), list(10, 20, 30, 40, 50)},
		{crossed(), list(10, 20, 30, 40, 50)},
		{stock(made(1, 0, 0, 5, api.MaxID), made(2, 0, 0, 1, 6)), list(1, 5, 6, api.MaxID)},
		{stock(made(7, 0, 0, upTo(51, 80)...), made(3, 0, 0, upTo(31, 60)...), made(5, 0, 0, upTo(1, 30)...)), upTo(1, 80)},
	} {
		l, e := descent.Slips(x.s)
		wantErr(t, "Slips", e, api.OK)
		want(t, "Slips", l, x.slips)
	}
}

// TestHolders is of P5.1.
func TestHolders(t *testing.T) {
	s := stock(made(9, 0, 0, 10, 20), mended(made(4, 0, 0, 20), 10), made(6, 0, 0, 10, 30), made(1, 0, 0), made(2, 0, 0, 10))
	for slip, holders := range map[int][]int{10: {2, 6, 9}, 20: {4, 9}, 30: {6}} {
		l, e := descent.Holders(s, slip)
		wantErr(t, "Holders", e, api.OK)
		want(t, "Holders", l, holders)
	}
	smallStocks(1, 300, func(_ *rand.Rand, s api.Stock) {
		all, e := descent.Slips(s)
		wantErr(t, "Slips", e, api.OK)
		want(t, "Slips", all, slipsOf(s))
		for slip := range 8 {
			l, e := descent.Holders(s, slip)
			want(t, "Holders", l, holdersOf(s, slip))
			if (e == api.OK) != has(all, slip) || e != api.OK && e != api.ErrNone {
				t.Error("Holders", s, slip, e)
			}
		}
	})
}

// TestAt is of P5.10.
func TestAt(t *testing.T) {
	s := stock(known(from(made(9, 5, 6, 10, 20), 0, 4), 7), known(made(4, 0, 0), 0), known(mended(made(6, 1, 2, 30), 10), api.MaxDay), known(made(1, 8, 9, 10), 7))
	for _, x := range []struct {
		day int
		ids []int
	}{
		{0, list(9, 6, 1)}, {1, list(9, 6, 1)}, {6, list(9, 6, 1)}, {7, list(6)}, {8, list(6)}, {api.MaxDay - 1, list(6)}, {api.MaxDay, nil},
	} {
		at, e := descent.At(s, x.day)
		wantErr(t, "At", e, api.OK)
		wantStock(t, "At", at, less(s, x.ids...))
	}
	for _, day := range []int{-1, api.MaxDay + 1, math.MaxInt, math.MinInt} {
		at, e := descent.At(s, day)
		check(t, "At no day", e, api.ErrArg, len(at.Copies) > 0)
		at, e = descent.At(api.Stock{}, day)
		check(t, "At no day", e, api.ErrArg, len(at.Copies) > 0)
	}
	none, e := descent.At(stock(known(made(1, 0, 0), 1)), 0)
	if e != api.OK || len(none.Copies) > 0 {
		t.Error("At ahead of all", none, e)
	}
}

// TestWithout is of P5.10: models that name a copy stay, also without it.
func TestWithout(t *testing.T) {
	s := stock(from(made(9, 5, 6, 10, 20), 0, 4), made(4, 0, 0), known(mended(made(6, 1, 2, 30), 10), 3), made(1, 8, 9, 10))
	for _, ids := range [][]int{nil, {}, {4}, {9}, {1, 9}, {9, 1}, {4, 4}, {6, 6, 4, 6}, {0, 10, 20, 2, -1, math.MaxInt}, {5, 4}, {9, 4, 6, 1}, upTo(0, 99)} {
		left, e := descent.Without(s, ids)
		wantErr(t, "Without", e, api.OK)
		wantStock(t, "Without", left, less(s, ids...))
	}
	none, e := descent.Without(api.Stock{}, list(1))
	if e != api.OK || len(none.Copies) > 0 {
		t.Error("Without, of nothing", none, e)
	}
	smallStocks(10, 300, func(r *rand.Rand, s api.Stock) {
		ids := someOf(r, upTo(0, 99), 2)
		left, e := descent.Without(s, ids)
		wantErr(t, "Without", e, api.OK)
		wantStock(t, "Without", left, less(s, ids...))
		day := r.Intn(9)
		at, e := descent.At(s, day)
		wantErr(t, "At", e, api.OK)
		late := slices.DeleteFunc(idsOf(s), func(id int) bool { return copyOf(s, id).Known <= day })
		wantStock(t, "At", at, less(s, late...))
	})
}
