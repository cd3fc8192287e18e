package mend_test

import (
	"math/rand"
	"reflect"
	"slices"
	"testing"

	"pecia/api"
	"pecia/mend"
)

// TestExamples is of the examples of the chapter.
func TestExamples(t *testing.T) {
	x := example()
	wantOpen(t, x, 0, 1, 3, 4)
	wantJam(t, x, list(1, 2))
	wantJam(t, x, list(1, 2, 3), span(0, 2))
	wantJam(t, x, list(1, 2, 3, 4, 5), span(0, 2))
	want(t, "Best", bestMending(t, x), exampleBest())
	wantSurely(t, x, list(1, 3, 4, 5), list(1, 3, 4, 5))
	wantDays(t, x, 1, 0)
	wantDays(t, x, 2)
	wantEarliest(t, x, 0, -1, 1, 3, 4)
	wantGain(t, x, 2, 3)
	wantLost(t, x, 4, 1)
	wantWider(t, x, 2, span(0, 4), 2)
	wantBoth(t, x, list(1, 2, 3, 4), 15)
	wantSpread(t, x, list(0, -1, 1, 3, 4), []api.Taker{taker(8, 1, 1, 2, 3)}, list(2, 3))
}

func can(t *testing.T, x api.Tour, ids []int) bool {
	t.Helper()
	is, e := mend.Can(x, ids)
	wantErr(t, "Can", e, api.OK)
	return is
}

// with is a list of flaws with a further one.
func with(ids []int, id int) []int { return slices.Sorted(slices.Values(append(list(id), ids...))) }

// mendable is some flaws that can be mended together, in any order up to a chance of one in n.
func mendable(t *testing.T, r *rand.Rand, x api.Tour, n int) []int {
	t.Helper()
	var ids []int
	for _, i := range r.Perm(len(x.Flaws)) {
		if more := with(ids, x.Flaws[i].ID); r.Intn(n) > 0 && can(t, x, more) {
			ids = more
		}
	}
	return ids
}

// TestSets is of P6.18.
func TestSets(t *testing.T) {
	grown := 0
	greatTours(18, 100, func(r *rand.Rand, x api.Tour) {
		few, many := mendable(t, r, x, 2), mendable(t, r, x, 9)
		if len(few) < len(many) {
			more := minus(many, few)
			if !slices.ContainsFunc(more, func(id int) bool { return can(t, x, with(few, id)) }) {
				t.Error("P6.18: none of more flaws can be mended with fewer ones:", x, few, many)
			}
			grown++
		}
		if n := len(mendedBy(x, bestMending(t, x).On)); n < len(many) {
			t.Error("P6.18: more can be mended together:", x, many, n)
		}
		part := someOf(r, idsOf(x), 2)
		rest, e := mend.Without(x, part)
		wantErr(t, "Without", e, api.OK)
		alone, e := mend.Without(x, minus(idsOf(x), part))
		wantErr(t, "Without", e, api.OK)
		if merit(t, rest)+merit(t, alone) < merit(t, x) {
			t.Error("P6.18: two parts:", x, part)
		}
	})
	if grown < 30 {
		t.Error("too few sets:", grown)
	}
}

// results is what all functions tell of a tour, as values that own their memory.
func results(x api.Tour, m api.Mending, f api.Flaw, l []api.Taker, ids, other, by []int) []any {
	open, _ := mend.Open(x)
	best, _ := mend.Best(x)
	surely, possibly, _ := mend.Surely(x)
	days, _ := mend.Days(x, 5)
	none, _ := mend.Days(x, 2)
	earliest, _ := mend.Earliest(x)
	later, _ := mend.Later(x, m, f)
	spread, _ := mend.Spread(x, m, l)
	on, who, both, _ := mend.Both(x, other)
	shutOne, _ := mend.Close(x, 3)
	same, _ := mend.Close(x, 2)
	without, _ := mend.Without(x, ids)
	all, _ := mend.Without(x, nil)
	jam, is, _ := mend.Jam(x, ids)
	can, _ := mend.Can(x, ids)
	merit, _ := mend.Merit(x)
	gain, _ := mend.Gain(x, 2)
	lost, _ := mend.Lost(x, 4)
	wider, _ := mend.Wider(x, 2, api.Span{Lo: 0, Hi: 4})
	id, fits, _ := mend.Fits(x, m.On)
	checked, _ := mend.CheckBoth(x, other, m.On, by)
	return []any{open, best, surely, possibly, days, none, earliest, later, spread, on, who, both, shutOne, same, without, all,
		jam, is, can, merit, gain, lost, wider, id, fits, checked, mend.Check(x), mend.CheckJam(x, ids, jam), mend.CheckBest(x, m)}
}

// TestMemory is of R6 and R7: arguments stay as they are, results share no memory, and the same call has the same result.
func TestMemory(t *testing.T) {
	x, m, f := example(), exampleBest(), flaw(9, 0, 4, 7)
	x.Closed, x.Flaws = slices.Grow(x.Closed, 9), slices.Grow(x.Flaws, 9)
	m.On, m.Full = slices.Grow(m.On, 9), slices.Grow(m.Full, 9)
	l := []api.Taker{taker(8, 1, 1, 2, 3), taker(3, 0, 1, 2, 3, 4, 5), taker(1, 4)}
	l[0].Flaws = slices.Grow(l[0].Flaws, 9)
	ids, other, by := slices.Grow(list(1, 2, 3), 9), slices.Grow(list(1, 3), 9), slices.Grow(list(0, -1, 0, 0, 0), 9)
	should := results(x, m, f, l, ids, other, by)
	again := results(x, m, f, l, ids, other, by)
	want(t, "the same calls", again, should)
	owned := slicesOf(reflect.ValueOf(again))
	if len(owned) < 21 {
		t.Error("results:", len(owned))
	}
	for i, v := range owned {
		fill(v, 1000+i)
	}
	for i, v := range owned {
		for k := range v.Len() {
			if numberOf(v.Index(k)).Int() != int64(1000+i) {
				t.Error("results share memory:", v)
			}
		}
	}
	wantTour(t, "the tour", x, example())
	want(t, "the mending", m, exampleBest())
	want(t, "room behind the closed days", x.Closed[:3], list(2, 0, 0))
	want(t, "room behind the flaws", x.Flaws[:6][5], api.Flaw{})
	want(t, "room behind the days", m.On[:6], list(0, -1, 1, 3, 4, 0))
	want(t, "room behind the spans", m.Full[:6][5], api.Span{})
	want(t, "the copies", l, []api.Taker{taker(8, 1, 1, 2, 3), taker(3, 0, 1, 2, 3, 4, 5), taker(1, 4)})
	want(t, "room behind the flaws of a copy", l[0].Flaws[:4], list(1, 2, 3, 0))
	want(t, "the flaws", ids[:4], list(1, 2, 3, 0))
	want(t, "the other closed days", other[:3], list(1, 3, 0))
	want(t, "the correctors", by[:6], list(0, -1, 0, 0, 0, 0))
	want(t, "the results", results(x, m, f, l, ids, other, by), should)
}

// TestWrongArgumentsAreNotChanged is of R6: lists stay as they are, also where they are wrong.
func TestWrongArgumentsAreNotChanged(t *testing.T) {
	for _, l := range [][]int{{3, 2, 1, 0}, {9, -1, 9, 8, 7}, {4, 4, 1, 3, 0}} {
		a, b := slices.Clone(l), slices.Clone(l)
		full := []api.Span{span(4, 0), span(0, 9)}
		m := api.Mending{On: a, Full: full}
		mend.Check(tour(5, a))
		mend.Fits(example(), a)
		mend.Can(example(), a)
		mend.CheckBest(example(), m)
		mend.Later(example(), m, flaw(0, 0, 0, 0))
		mend.Spread(example(), m, []api.Taker{taker(1, 0, b...)})
		mend.Spread(example(), exampleBest(), []api.Taker{taker(1, 0, b...)})
		mend.Both(example(), b)
		mend.CheckBoth(example(), nil, a, b)
		mend.Without(example(), b)
		want(t, "a list", a, l)
		want(t, "a list", b, l)
		want(t, "spans", full, []api.Span{span(4, 0), span(0, 9)})
	}
}

// slicesOf is all slices within a value that have elements, but for those of values of any type.
func slicesOf(v reflect.Value) []reflect.Value {
	var l []reflect.Value
	switch v.Kind() {
	case reflect.Interface:
		return slicesOf(v.Elem())
	case reflect.Slice:
		for i := range v.Len() {
			l = append(l, slicesOf(v.Index(i))...)
		}
		if k := v.Type().Elem().Kind(); (k == reflect.Int || k == reflect.Struct) && v.Len() > 0 {
			l = append(l, v)
		}
	case reflect.Struct:
		for i := range v.NumField() {
			l = append(l, slicesOf(v.Field(i))...)
		}
	}
	return l
}

// fill sets what a slice has, and what it has room for besides, to a number, or to structs that begin with it.
func fill(v reflect.Value, n int) {
	for i := range v.Cap() {
		numberOf(v.Slice(0, v.Cap()).Index(i)).SetInt(int64(n))
	}
}

// numberOf is a number, or the first one of a struct.
func numberOf(v reflect.Value) reflect.Value {
	for v.Kind() == reflect.Struct {
		v = v.Field(0)
	}
	return v
}
