package order_test

import (
	"reflect"
	"slices"
	"testing"

	"pecia/api"
	"pecia/order"
)

// TestExamples is of the examples of the chapter.
func TestExamples(t *testing.T) {
	o := example()
	wantTimes(t, o, 14, list(0, 3, 7), list(3, 5, 10), list(5, 9, 13))
	n, e := order.Ample(o)
	wantErr(t, "Ample", e, api.OK)
	want(t, "Ample", n, 11)
	wantPaths(t, o)
	wantDays(t, o, list(0, 2, 4), list(0, 2, 1))
	want(t, "Latest", latestOf(t, o, 14), days(rows(list(0, 4, 8), list(3, 5, 10), list(6, 10, 13))))
	d, e := order.Latest(o, 13)
	check(t, "Latest", e, api.ErrNone, len(d) > 0)
	want(t, "Critical", critical(t, o), path(0, 0, 1, 0, 1, 1, 1, 2, 2, 2))
	for piece, should := range list(1, 0, 1) {
		n, e := order.Save(o, piece)
		wantErr(t, "Save", e, api.OK)
		want(t, "Save", n, should)
	}
	wantNeed(t, o, 0, 13, 2)
	wantNeed(t, o, 1, 13, 0)
	wantNeed(t, o, 2, 13, 2)
	wantNeed(t, o, 2, 20, 1)
	wantFewest(t, o, 13, 1, 2, 2)
	wantFewest(t, o, 12, 2, 2, 2)
	wantFewest(t, o, 10)
	wantRate(t, o, 0, api.Ratio{Num: 3, Den: 1}, 0)
	want(t, "Alike", alikeOf(t, o, 0, 3), 15)
	want(t, "Hold", hold(t, o, 9), path(1, 1, 2, 1))
	wantJohnson(t, two(), 12, 3, 1, 2)
}

// roomy is an order with room behind its lists.
func roomy(o api.Order) api.Order {
	o = other(o)
	o.Copies, o.Runners = slices.Grow(o.Copies, 9), slices.Grow(o.Runners, 9)
	for n, r := range o.Runners {
		o.Runners[n].Takes = slices.Grow(r.Takes, 9)
	}
	return o
}

// results is what all functions tell of an order, of another one with other scribes, and of a path, as values that own their memory.
func results(o, b, two api.Order, l []api.Stint) []any {
	times, _ := order.Times(o)
	path, _ := order.Path(o, api.Stint{Runner: 2, Piece: 2})
	waits, _ := order.Waits(o)
	idle, _ := order.Idle(o)
	latest, _ := order.Latest(o, 17)
	critical, _ := order.Critical(o)
	late, _ := order.Delayed(o, api.Stint{Runner: 1, Piece: 1}, 2)
	same, _ := order.Delayed(o, api.Stint{Runner: 1, Piece: 1}, 0)
	reach, _ := order.Reach(o, api.Stint{Runner: 1, Piece: 1}, 2)
	more, _ := order.More(o, 0)
	fewest, _ := order.Fewest(o, 12)
	both, _ := order.Merge(o, b)
	only, _ := order.Merge(o, api.Order{Copies: o.Copies})
	swapped, _ := order.Swap(o, 0)
	without, _ := order.Without(o, 2)
	ids, last, _ := order.Johnson(two)
	held, _ := order.Hold(o, 9)
	end, _ := order.End(o)
	slack, _ := order.Slack(o, api.Stint{Runner: 0, Piece: 2})
	save, _ := order.Save(o, 0)
	need, _ := order.Need(o, 0, 13)
	ample, _ := order.Ample(o)
	rate, piece, _ := order.Rate(o, 0)
	alike, _ := order.Alike(o, 0, 3)
	return []any{times, path, waits, idle, latest, critical, late, same, reach, more, fewest, both, only, swapped, without, ids, held,
		last, end, slack, save, need, ample, rate, piece, alike, order.Check(o), order.CheckPath(o, l, 5)}
}

// TestMemory is of R6 and R7: arguments stay as they are, results share no memory, and the same call has the same result.
func TestMemory(t *testing.T) {
	more := orderOf(list(1, 2, 1), runner(9, 4, 6, 1, 2), runner(8, 0, 1, 1, 1))
	o, b, pair, l := roomy(example()), roomy(more), roomy(two()), slices.Grow(path(0, 0, 1, 0, 2, 0), 9)
	should := results(o, b, pair, l)
	again := results(o, b, pair, l)
	want(t, "the same calls", again, should)
	owned := slicesOf(reflect.ValueOf(again))
	if len(owned) < 50 {
		t.Error("results:", len(owned))
	}
	for i, v := range owned {
		fill(v, 1000+i)
	}
	for i, v := range owned {
		for k := range v.Len() {
			if numberOf(v.Index(k)).Int() != int64(1000+i) {
				t.Error("results share memory:", v)
			}
		}
	}
	for what, x := range map[string][2]api.Order{"the order": {o, example()}, "the second order": {b, more}, "two pieces": {pair, two()}} {
		wantOrder(t, what, x[0], x[1])
		want(t, "room behind the copies of "+what, x[0].Copies[:len(x[0].Copies)+1][len(x[0].Copies)], 0)
		want(t, "room behind the scribes of "+what, x[0].Runners[:len(x[0].Runners)+1][len(x[0].Runners)], api.Runner{})
		for _, r := range x[0].Runners {
			want(t, "room behind the days in "+what, r.Takes[:len(r.Takes)+1][len(r.Takes)], 0)
		}
	}
	want(t, "the path", l[:4], path(0, 0, 1, 0, 2, 0, 0, 0))
	want(t, "the results", results(o, b, pair, l), should)
}

// TestWrongArgumentsAreNotChanged is of R6 and R4: lists stay as they are, also where there is an error.
func TestWrongArgumentsAreNotChanged(t *testing.T) {
	for what, x := range wrongOrders() {
		before := other(x.o)
		wantFirst(t, what, x.o, x.e)
		wantOrder(t, what, x.o, before)
	}
	o, l := example(), path(2, 2, 0, 0)
	order.CheckPath(o, l, 5)
	order.Need(o, 1, 13)
	order.Need(o, 0, 13)
	order.Delayed(o, stint(0, 0), 60)
	order.Swap(o, 2)
	order.Merge(o, o)
	order.Fewest(o, 10)
	order.Fewest(o, 12)
	order.Latest(o, 13)
	order.Johnson(o)
	wantOrder(t, "the order", o, example())
	want(t, "the path", l, path(2, 2, 0, 0))
}

// TestNumbersOfAnySize is of R1: nothing panics, and nothing goes on for ever.
func TestNumbersOfAnySize(t *testing.T) {
	for _, n := range append(far(), -1, 0, 1, 2, 3, lastBy, lastBy+1) {
		for _, m := range append(far(), -1, 0, 1, 2, 3, lastBy, lastBy+1) {
			for _, o := range []api.Order{example(), none(3), orderOf(list(n, m), runner(n, m, n, m)), orderOf(list(1), runner(1, n, m))} {
				s := stint(n, m)
				order.Path(o, s)
				order.CheckPath(o, []api.Stint{s, s}, n)
				order.CheckPath(o, []api.Stint{stint(0, 0), s}, m)
				order.Slack(o, s)
				order.Delayed(o, s, n)
				order.Reach(o, stint(0, 0), n)
				order.Save(o, n)
				order.More(o, n)
				order.Need(o, n, m)
				order.Fewest(o, n)
				order.Latest(o, n)
				order.Hold(o, n)
				order.Swap(o, n)
				order.Without(o, n)
				order.Rate(o, n)
				order.Alike(o, n, m)
				order.Merge(o, orderOf(list(n), runner(m, n, m)))
			}
		}
	}
}

// slicesOf is all slices within a value that have elements, but for those of values of any type.
func slicesOf(v reflect.Value) []reflect.Value {
	var l []reflect.Value
	switch v.Kind() {
	case reflect.Interface:
		return slicesOf(v.Elem())
	case reflect.Slice:
		for i := range v.Len() {
			l = append(l, slicesOf(v.Index(i))...)
		}
		if k := v.Type().Elem().Kind(); (k == reflect.Int || k == reflect.Struct) && v.Len() > 0 {
			l = append(l, v)
		}
	case reflect.Struct:
		for i := range v.NumField() {
			l = append(l, slicesOf(v.Field(i))...)
		}
	}
	return l
}

// fill sets what a slice has, and what it has room for besides, to a number, or to structs that begin with it.
func fill(v reflect.Value, n int) {
	for i := range v.Cap() {
		numberOf(v.Slice(0, v.Cap()).Index(i)).SetInt(int64(n))
	}
}

// numberOf is a number, or the first one of a struct.
func numberOf(v reflect.Value) reflect.Value {
	for v.Kind() == reflect.Struct {
		v = v.Field(0)
	}
	return v
}
