package descent_test

import (
	"math/rand"
	"testing"

	"pecia/api"
	"pecia/descent"
)

func wantWhy(t *testing.T, s api.Stock, k api.Kin, should, shouldSlip int) {
	t.Helper()
	why, slip, e := descent.Why(s, k)
	wantErr(t, "Why", e, api.OK)
	if why != should || slip != shouldSlip {
		t.Error("Why", s, k, why, slip, "want", should, shouldSlip)
	}
	can, e := descent.Can(s, k)
	wantErr(t, "Can", e, api.OK)
	if can != (should == 0) {
		t.Error("Can", s, k, can)
	}
}

func wantModels(t *testing.T, s api.Stock, child int, should ...int) {
	t.Helper()
	l, e := descent.Models(s, child)
	wantErr(t, "Models", e, api.OK)
	want(t, "Models", l, should)
}

func wantOrphans(t *testing.T, s api.Stock, should ...int) {
	t.Helper()
	l, e := descent.Orphans(s)
	wantErr(t, "Orphans", e, api.OK)
	want(t, "Orphans", l, should)
}

// TestModelExamples is of P5.5, by the examples of the chapter.
func TestModelExamples(t *testing.T) {
	s := example()
	wantModels(t, s, 5, 0, 1, 2, 3)
	wantModels(t, s, 4, 0, 1)
	wantWhy(t, s, kin(5, 4), 3, 40)
	wantWhy(t, s, kin(2, 3), 2, 0)
	wantWhy(t, s, kin(5, 3), 0, 0)
	wantOrphans(t, s)
}

// TestWhy is of P5.5: each reason alone, and the first one of several.
func TestWhy(t *testing.T) {
	alone := from(made(1, 5, 9, 10), 7)
	wantWhy(t, stock(alone), kin(1, 1), 1, 0)
	wantWhy(t, stock(alone), kin(1, 0), 4, 0)
	for _, x := range []struct {
		parent, child api.Witness
		why, slip     int
	}{
		{made(1, 0, 4), made(2, 5, 9), 0, 0},
		{made(1, 4, 4), made(2, 5, 5), 0, 0},
		{made(1, 0, 5), made(2, 5, 9), 2, 0}, // on the same day it may have been too late
		{made(1, 5, 5), made(2, 5, 5), 2, 0},
		{made(1, 0, 6), made(2, 5, 9), 2, 0},
		{made(1, 6, 6), made(2, 5, 9), 2, 0},
		{made(1, 10, 11), made(2, 5, 9), 2, 0},
		{made(1, 0, api.MaxDay), made(2, api.MaxDay, api.MaxDay), 2, 0},
		{made(1, 0, api.MaxDay-1), made(2, api.MaxDay, api.MaxDay), 0, 0},
		{made(9, 0, 1, 3), made(2, 5, 9, 3), 0, 0}, // IDs tell nothing of days
		{made(1, 0, 1, 3, 5), made(2, 5, 9, 3, 5), 0, 0},
		{made(1, 0, 1), made(2, 5, 9, 3, 5), 0, 0},
		{made(1, 0, 1, 3, 5), made(2, 5, 9, 3), 3, 5},
		{made(1, 0, 1, 3, 5), made(2, 5, 9, 5), 3, 3},
		{made(1, 0, 1, 3, 5), made(2, 5, 9, 4), 3, 3},
		{made(1, 0, 1, 3, 5, 8), mended(made(2, 5, 9, 5), 3), 3, 8},
		{made(1, 0, 1, 3, 5, 8), mended(made(2, 5, 9), 3, 5, 8), 0, 0},
		{made(1, 0, 1, 3, 5, 8), mended(made(2, 5, 9, 3, 8), 4, 5, 6), 0, 0},
		{mended(made(1, 0, 1, 3), 5), mended(made(2, 5, 9, 3), 4), 0, 0},
		{mended(made(1, 0, 1, 3), 5), made(2, 5, 9), 3, 3}, // what was mended in the model does not matter
		{made(1, 0, 1), from(made(2, 5, 9), 1), 0, 0},
		{made(1, 0, 1), from(made(2, 5, 9), 0, 1, 7), 0, 0},
		{made(1, 0, 1), from(made(2, 5, 9), 0), 4, 0},
		{made(1, 0, 1), from(made(2, 5, 9), 0, 3, 10), 4, 0},
		{from(made(1, 0, 1), 0), made(2, 5, 9), 0, 0},
		{from(made(1, 0, 1), 2), from(made(2, 5, 9), 1), 0, 0},
		{made(1, 0, 7, 3), from(made(2, 5, 9), 0), 2, 0},
		{made(1, 0, 7), from(made(2, 5, 9), 0), 2, 0},
		{made(1, 0, 1, 3), from(made(2, 5, 9), 0), 3, 3},
		{made(1, 0, 7, 3), made(2, 5, 9), 2, 0},
		{made(api.MaxID, 0, 1, api.MaxID), made(2, 5, 9), 3, api.MaxID},
	} {
		for _, s := range []api.Stock{stock(x.parent, x.child), stock(x.child, made(50, 0, 0), x.parent)} {
			wantWhy(t, s, kin(x.child.ID, x.parent.ID), x.why, x.slip)
		}
	}
}

// TestFirstText is of P5.5: the first text was there ahead of all days, and has no slips.
func TestFirstText(t *testing.T) {
	for _, x := range []struct {
		c   api.Witness
		why int
	}{
		{made(1, 0, 0), 0}, {made(1, 0, 9, 3), 0}, {mended(made(1, 5, 9), 3), 0},
		{from(made(1, 0, 0), 0), 0}, {from(made(1, 0, 0, 3), 0, 5), 0},
		{from(made(1, 0, 0), 5), 4}, {from(made(1, 0, 0), 2, 3, 4), 4},
	} {
		wantWhy(t, stock(x.c), kin(1, 0), x.why, 0)
	}
}

// TestModels is of P5.5 and P5.18.
func TestModels(t *testing.T) {
	s := stock(from(made(9, 20, 21, 1, 2), 0, 5, 7), made(7, 0, 1, 1), made(5, 2, 3, 1, 2), made(3, 0, 0, 3), from(made(8, 9, 9), 9), mended(made(2, 30, 30), 1, 2, 3), from(made(1, 4, 4, 1), 4, 7))
	wantModels(t, s, 9, 0, 5, 7)
	wantModels(t, s, 7, 0)
	wantModels(t, s, 5, 0, 7)
	wantModels(t, s, 3, 0)
	wantModels(t, s, 8)
	wantModels(t, s, 2, 0, 1, 3, 5, 7, 8, 9)
	wantModels(t, s, 1, 7)
	wantOrphans(t, s, 8)
	wantOrphans(t, less(s, 7), 1, 8)
	wantOrphans(t, less(s, 8))
	wantOrphans(t, less(s, 9), 8)
	wantOrphans(t, api.Stock{})
	wantOrphans(t, stock(made(1, 0, 0)))
	wantOrphans(t, stock(from(made(5, 0, 0), 6), from(made(6, 0, 0), 5), from(made(4, 9, 9), 5)), 5, 6) // who has an orphan as its model is none
	wantModels(t, stock(from(made(5, 0, 0), 6), from(made(6, 0, 0), 5), from(made(4, 9, 9), 5)), 4, 5)
	row := rows(api.MaxCopies)
	wantModels(t, row, api.MaxCopies, upTo(0, api.MaxCopies-1)...)
	wantModels(t, row, 1, 0)
	wantModels(t, row, 12, upTo(0, 11)...)
}

// TestModelsAgree is of P5.5 and P5.18, for small stocks.
func TestModelsAgree(t *testing.T) {
	reasons, orphans := map[int]int{}, 0
	smallStocks(7, 1000, func(_ *rand.Rand, s api.Stock) {
		var all []int
		for _, child := range idsOf(s) {
			should := modelsOf(s, child)
			wantModels(t, s, child, should...)
			if len(should) == 0 {
				all = append(all, child)
			}
			for _, parent := range append(idsOf(s), 0) {
				why, slip := whyNot(s, kin(child, parent))
				wantWhy(t, s, kin(child, parent), why, slip)
				reasons[why]++
			}
		}
		wantOrphans(t, s, all...)
		orphans += len(all)
	})
	for why := range 5 {
		if reasons[why] < 100 {
			t.Error("too few of a reason:", reasons)
		}
	}
	if orphans < 100 {
		t.Error("too few orphans:", orphans)
	}
}
