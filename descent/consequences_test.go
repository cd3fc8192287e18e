package descent_test

import (
	"math/rand"
	"reflect"
	"slices"
	"testing"

	"pecia/api"
	"pecia/descent"
)

// greatStocks goes through n stocks of all sizes, with descents: true histories of which some copies are lost, and in which some slips were taken out of all copies, so that there are copies without new ones, and some added, so that these arise twice or cross others.
func greatStocks(seed int64, n int, visit func(r *rand.Rand, s api.Stock)) {
	trueHistories(seed, n, true, func(r *rand.Rand, h history) {
		s := less(h.stock, someOf(r, idsOf(h.stock), 4)...)
		out := someOf(r, slipsOf(s), 3)
		isOut := func(slip int) bool { return has(out, slip) }
		for i := range s.Copies {
			c := &s.Copies[i]
			c.Known = r.Intn(20)
			c.Slips, c.Mended = slices.DeleteFunc(c.Slips, isOut), slices.DeleteFunc(c.Mended, isOut)
			if r.Intn(3) == 0 {
				c.Models = nil
			}
			if slip := 1 + r.Intn(9); r.Intn(2) == 0 && len(c.Slips) < api.MaxMarks && !has(c.Mended, slip) {
				c.Slips = slices.Compact(slices.Sorted(slices.Values(append(list(slip), c.Slips...))))
			}
		}
		for _, id := range idsOf(s) {
			if len(modelsOf(s, id)) == 0 {
				s.Copies[slices.IndexFunc(s.Copies, func(c api.Witness) bool { return c.ID == id })].Models = nil
			}
		}
		for i := range 4 {
			s = mixed(r, s, 201+i)
		}
		visit(r, s)
	})
}

// mixed is a stock with a further copy, if there can be one, that has the slips of two other ones.
func mixed(r *rand.Rand, s api.Stock, id int) api.Stock {
	n := len(s.Copies)
	if n == 0 || n == api.MaxCopies {
		return s
	}
	a, b := s.Copies[r.Intn(n)].Slips, s.Copies[r.Intn(n)].Slips
	slips := slices.Compact(slices.Sorted(slices.Values(slices.Concat(a, b))))
	if len(slips) > api.MaxMarks {
		return s
	}
	return stock(append(slices.Clone(s.Copies), made(id, 300+id, 300+id, slips...))...)
}

// TestGreatDescents is of P5.6, P5.7, P5.13 and P5.14, for stocks of all sizes.
func TestGreatDescents(t *testing.T) {
	several := 0
	greatStocks(13, 100, func(r *rand.Rand, s api.Stock) {
		d := bestDescent(t, s)
		wantErr(t, "P5.13: CheckBest of Best", descent.CheckBest(s, d), api.OK)
		want(t, "Arise", d.Arise, ariseIn(s, d.Parents))
		if d.Arise < len(slipsOf(s)) {
			t.Error("P5.13: fewer slips arise than there are:", s, d)
		}
		var surely, possibly []api.Kin
		count := 1
		for _, child := range idsOf(s) {
			wantModels(t, s, child, modelsOf(s, child)...)
			best := wantChoices(t, s, child)
			if len(best) == 1 {
				surely = append(surely, best...)
			} else {
				several++
			}
			possibly = append(possibly, best...)
			count = min(count*len(best), api.MaxLists)
		}
		wantLeast(t, s, d.Arise, count)
		wantKins(t, s, surely, possibly)
		other := slices.Clone(d.Parents)
		for i, c := range s.Copies {
			other[i] = modelsOf(s, c.ID)[r.Intn(len(modelsOf(s, c.ID)))]
			arise, should := ariseIn(s, other), api.ErrProof
			if arise < d.Arise {
				t.Error("P5.13: fewer slips arise:", s, d, other)
			}
			if arise == d.Arise {
				should = api.OK
			}
			wantErr(t, "P5.13: CheckBest", descent.CheckBest(s, api.Descent{Parents: other, Arise: arise}), should)
		}
	})
	if several < 50 {
		t.Error("too few choices:", several)
	}
}

// wantChoices is that Made returns what a copy needs more with each of its models, and what it returns 0 of.
func wantChoices(t *testing.T, s api.Stock, child int) []api.Kin {
	t.Helper()
	least := api.MaxMarks
	for _, parent := range modelsOf(s, child) {
		least = min(least, len(arisen(s, kin(child, parent))))
	}
	var best []api.Kin
	for _, parent := range modelsOf(s, child) {
		more := len(arisen(s, kin(child, parent))) - least
		wantMade(t, s, kin(child, parent), more)
		if more == 0 {
			best = append(best, kin(child, parent))
		}
	}
	return best
}

// TestGreatArising is of P5.8 and P5.15, for stocks of all sizes.
func TestGreatArising(t *testing.T) {
	twice, open := 0, 0
	greatStocks(15, 100, func(r *rand.Rand, s api.Stock) {
		possibly, e := descent.Possibly(s)
		wantErr(t, "Possibly", e, api.OK)
		slips := slipsOf(s)
		var sureTwice []int
		for _, slip := range slips {
			var all, some []int
			for _, id := range holdersOf(s, slip) {
				without, with := false, false // a best model without the slip, or with it
				for _, k := range possibly {
					if k.Child == id {
						without = without || !has(copyOf(s, k.Parent).Slips, slip)
						with = with || has(copyOf(s, k.Parent).Slips, slip)
					}
				}
				if without {
					some = append(some, id)
				}
				if without && !with {
					all = append(all, id)
				}
			}
			wantArose(t, s, slip, all, some)
			if len(some) == 0 {
				t.Error("P5.15: a slip arises in no copy:", s, slip)
			}
			open += len(some) - len(all)
			if len(all) > 1 {
				sureTwice = append(sureTwice, slip)
			}
		}
		wantTwice(t, s, sureTwice...)
		twice += len(sureTwice)
		if least, e := descent.Least(s); e != api.OK || least == len(slips) && len(sureTwice) > 0 {
			t.Error("P5.15: Twice, where all slips arise once:", s, e)
		}
	})
	if twice < 100 || open < 20 {
		t.Error("too few of a sort:", twice, open)
	}
}

// TestTrueDescents is of P5.17: the true descent is a best one, in which as many slips arise as there are.
func TestTrueDescents(t *testing.T) {
	for _, mends := range []bool{false, true} {
		trueHistories(17, 200, mends, func(r *rand.Rand, h history) {
			s := h.stock
			least, e := descent.Least(s)
			wantErr(t, "P5.17: Least", e, api.OK)
			want(t, "P5.17: Least", least, len(slipsOf(s)))
			wantErr(t, "P5.17: CheckBest of the true descent", descent.CheckBest(s, api.Descent{Parents: h.parents, Arise: least}), api.OK)
			possibly, e := descent.Possibly(s)
			wantErr(t, "Possibly", e, api.OK)
			for i, c := range s.Copies {
				if !slices.Contains(possibly, kin(c.ID, h.parents[i])) {
					t.Error("P5.17: a true parent is not possible:", s, c.ID, h.parents[i])
				}
				for _, slip := range h.own[i] {
					wantArose(t, s, slip, list(c.ID), list(c.ID))
				}
			}
			wantTwice(t, s)
			if _, is, e := descent.Cross(s); !mends && (is || e != api.OK) {
				t.Error("P5.17: slips cross:", s, e)
			}
		})
	}
}

// TestMoreKnown is of P5.16.
func TestMoreKnown(t *testing.T) {
	fewer := 0
	greatStocks(16, 300, func(r *rand.Rand, s api.Stock) {
		left, e := descent.Without(s, someOf(r, idsOf(s), 3))
		wantErr(t, "Without", e, api.OK)
		_, is, e := descent.Cross(s)
		wantErr(t, "Cross", e, api.OK)
		x, still, e := descent.Cross(left)
		wantErr(t, "Cross", e, api.OK)
		if still {
			wantErr(t, "P5.16: what crosses without some copies crosses with them", descent.CheckCross(s, x), api.OK)
		}
		if still && !is {
			t.Error("P5.16: slips cross without some copies only:", s, left)
		}
		if is && !still {
			fewer++
		}
		var before []int
		for day := range 21 {
			at, e := descent.At(s, day)
			wantErr(t, "At", e, api.OK)
			if now := idsOf(at); !isPart(before, now) {
				t.Error("P5.16: a copy is not known any more:", s, day)
			} else {
				before = now
			}
		}
		want(t, "P5.16: what is known at last", before, idsOf(s))
	})
	if fewer < 20 {
		t.Error("too few that cross no more:", fewer)
	}
}

// TestMeeting is of P5.20: a slip that arose in one copy alone, and that two hold, is one that the copy holds in which they meet, if no slip was mended.
func TestMeeting(t *testing.T) {
	held := 0
	greatStocks(21, 60, func(r *rand.Rand, s api.Stock) {
		for i := range s.Copies {
			s.Copies[i].Mended, s.Copies[i].Models = nil, nil
		}
		d := bestDescent(t, s)
		all := arisings
		for _, slip := range slipsOf(s) {
			if len(all(s, [][]int{d.Parents}, slip)[0]) != 1 {
				continue
			}
			holders := holdersOf(s, slip)
			for _, a := range holders {
				for _, b := range holders {
					meet, e := descent.Meet(s, d, a, b)
					wantErr(t, "Meet", e, api.OK)
					if !has(holders, meet) {
						t.Error("P5.20: Meet", s, d, slip, a, b, meet)
					}
					if a != b {
						held++
					}
				}
			}
		}
	})
	if held < 100 {
		t.Error("too few slips of two copies:", held)
	}
	trueHistories(22, 40, true, func(r *rand.Rand, h history) {
		for _, a := range idsOf(h.stock) {
			for _, b := range idsOf(h.stock) {
				if r.Intn(9) == 0 {
					wantMeeting(t, h.stock, h.parents, a, b)
				}
			}
		}
	})
}

// TestOrphans is of P5.21: without all orphans, and those that become orphans then, and so on, there is a descent.
func TestOrphans(t *testing.T) {
	r := rand.New(rand.NewSource(21))
	steps := map[int]int{}
	for range 500 {
		s := someStock(r, r.Intn(api.MaxCopies+1), 3)
		for i := range s.Copies {
			if c := &s.Copies[i]; r.Intn(4) == 0 {
				c.Models = someOf(r, idsOf(less(s, c.ID)), 4)
			}
		}
		n := 0
		for ; ; n++ {
			orphans, e := descent.Orphans(s)
			wantErr(t, "Orphans", e, api.OK)
			_, e = descent.Best(s)
			if len(orphans) == 0 {
				wantErr(t, "P5.21: Best without orphans", e, api.OK)
				break
			}
			wantErr(t, "P5.21: Best with orphans", e, api.ErrClash)
			s, e = descent.Without(s, orphans)
			wantErr(t, "Without", e, api.OK)
		}
		steps[n]++
	}
	if steps[0] < 20 || steps[1] < 50 || steps[2] < 20 {
		t.Error("too few of a sort:", steps)
	}
}

// allStandings is what each kin of a stock is, by Surely and Possibly.
func allStandings(t *testing.T, s api.Stock) map[api.Kin]int {
	t.Helper()
	all := map[api.Kin]int{}
	possibly, e := descent.Possibly(s)
	surely, e2 := descent.Surely(s)
	if e != e2 || e != api.OK && e != api.ErrClash {
		t.Error("Surely, Possibly", s, e, e2)
	}
	for _, k := range possibly {
		all[k] = possible
	}
	for _, k := range surely {
		all[k] = sure
	}
	return all
}

// TestGreatRests is of P5.19 and P5.22, for stocks of all sizes.
func TestGreatRests(t *testing.T) {
	resting, idle := 0, 0
	greatStocks(19, 40, func(r *rand.Rand, s api.Stock) {
		was := allStandings(t, s)
		is := map[int]map[api.Kin]int{} // without each copy
		isModel := map[int]bool{}
		for _, id := range idsOf(s) {
			left, e := descent.Without(s, list(id))
			wantErr(t, "Without", e, api.OK)
			is[id] = allStandings(t, left)
			for _, parent := range modelsOf(s, id) {
				isModel[parent] = true
			}
		}
		for _, child := range idsOf(s) {
			for _, parent := range append(list(0), idsOf(s)...) {
				k := kin(child, parent)
				var should []int
				for _, id := range idsOf(s) {
					if id != child && id != parent && is[id][k] != was[k] {
						should = append(should, id)
						if !isModel[id] && len(modelsOf(s, id)) > 0 {
							t.Error("P5.22: a kin rests on a copy from which no other one can be made:", s, k, id)
						}
					}
				}
				wantRests(t, s, k, should...)
				resting += len(should)
			}
		}
		idle += len(s.Copies) - len(isModel)
	})
	if resting < 300 || idle < 50 {
		t.Error("too few of a sort:", resting, idle)
	}
}

// results is what all functions tell of a stock, as values that own their memory.
func results(s api.Stock, d api.Descent, tree api.Tree, x api.Crossing, ids []int) []any {
	slips, _ := descent.Slips(s)
	holders, _ := descent.Holders(s, 10)
	drop, _ := descent.Drop(s)
	models, _ := descent.Models(s, 5)
	best, _ := descent.Best(s)
	surely, _ := descent.Surely(s)
	possibly, _ := descent.Possibly(s)
	all, some, _ := descent.Arose(s, 10)
	above, _ := descent.From(s, d, 5)
	below, _ := descent.Below(s, d, 1)
	rests, _ := descent.Rests(s, kin(5, 3))
	at, _ := descent.At(s, 9)
	less, _ := descent.Without(s, ids)
	same, _ := descent.Without(s, nil)
	whole, _ := descent.Tree(less)
	orphans, _ := descent.Orphans(orphaned())
	twice, _ := descent.Twice(less)
	cross, is, _ := descent.Cross(s)
	least, _ := descent.Least(s)
	descent.Check(s)
	descent.CheckCross(s, x)
	descent.CheckTree(less, tree)
	descent.CheckTree(s, tree)
	descent.CheckBest(s, d)
	descent.Lost(s)
	descent.Can(s, kin(5, 3))
	descent.Why(s, kin(5, 4))
	descent.Count(s)
	descent.Made(s, kin(5, 1))
	descent.Meet(s, d, 5, 4)
	return []any{slips, holders, drop, models, best, surely, possibly, all, some, above, below, rests, at, less, same, whole, orphans, twice, cross, is, least}
}

// roomy is a stock whose lists have room behind their elements.
func roomy(s api.Stock) api.Stock {
	s = cloneStock(s)
	for i := range s.Copies {
		c := &s.Copies[i]
		c.Slips, c.Mended, c.Models = slices.Grow(c.Slips, 9), slices.Grow(c.Mended, 9), slices.Grow(c.Models, 9)
	}
	s.Copies = slices.Grow(s.Copies, 9)
	return s
}

// TestMemory is of R6 and R7: arguments stay as they are, results share no memory, and the same call has the same result.
func TestMemory(t *testing.T) {
	plain := crossed()
	plain.Copies[4].Models, plain.Copies[5].Mended = list(0, 1, 2, 3), list(1, 2)
	s, d := roomy(plain), api.Descent{Parents: list(0, 1, 2, 1, 3, 0), Arise: 7}
	x, ids, shape := crossing(10, 20, 2, 1, 6), slices.Grow(list(6, 1, 2, 99), 9), exampleTree()
	should := results(s, d, shape, x, ids)
	again := results(s, d, shape, x, ids)
	want(t, "the same calls", again, should)
	owned := slicesOf(reflect.ValueOf(again))
	if len(owned) < 40 {
		t.Error("results:", len(owned))
	}
	for i, v := range owned {
		fill(v, 1000+i)
	}
	for i, v := range owned {
		if !isFilled(v, 1000+i) {
			t.Error("results share memory:", v)
		}
	}
	wantStock(t, "the stock", s, plain)
	want(t, "room behind the copies", s.Copies[:7][6], api.Witness{})
	want(t, "room behind the slips", s.Copies[0].Slips[:3], list(10, 0, 0))
	want(t, "room behind the mended slips", s.Copies[4].Mended[:3], list(30, 0, 0))
	want(t, "room behind the models", s.Copies[4].Models[:5], list(0, 1, 2, 3, 0))
	want(t, "the descent", d, api.Descent{Parents: list(0, 1, 2, 1, 3, 0), Arise: 7})
	want(t, "the tree", shape, exampleTree())
	want(t, "the IDs", ids[:6], list(6, 1, 2, 99, 0, 0))
	want(t, "the results", results(s, d, shape, x, ids), should)
}

// TestProofsAreNotChanged is of R6: what is told as a proof stays as it is, also where it is none.
func TestProofsAreNotChanged(t *testing.T) {
	for _, l := range [][]int{{3, 2, 1, 0}, {40, 20, 10}, {9, -1, 9, 8, 7}, {0, 1, 2, 1, 3}, {0, 0, 5, 4, 0}} {
		a, b := slices.Clone(l), slices.Clone(l)
		shape := tree(branch(-1, nil, b), branch(0, a, b), branch(1, b, a))
		descent.CheckTree(example(), shape)
		descent.CheckTree(stock(), tree(branch(-1, nil, nil), branch(0, a, b)))
		descent.CheckBest(example(), of(a...))
		descent.From(example(), of(a...), 5)
		descent.Below(example(), of(b...), 0)
		descent.Meet(example(), of(b...), 5, 3)
		descent.Without(example(), a)
		want(t, "a list", a, l)
		want(t, "a list", b, l)
	}
}

// slicesOf is all slices within a value that have elements, but for those of values of any type.
func slicesOf(v reflect.Value) []reflect.Value {
	var l []reflect.Value
	switch v.Kind() {
	case reflect.Interface:
		return slicesOf(v.Elem())
	case reflect.Slice:
		for i := range v.Len() {
			l = append(l, slicesOf(v.Index(i))...)
		}
		if k := v.Type().Elem().Kind(); (k == reflect.Int || k == reflect.Struct) && v.Len() > 0 {
			l = append(l, v)
		}
	case reflect.Struct:
		for i := range v.NumField() {
			l = append(l, slicesOf(v.Field(i))...)
		}
	}
	return l
}

// fill sets what a slice has, and what it has room for besides, to a number, or to structs that begin with it.
func fill(v reflect.Value, n int) {
	for i := range v.Cap() {
		numberOf(v.Slice(0, v.Cap()).Index(i)).SetInt(int64(n))
	}
}

func isFilled(v reflect.Value, n int) bool {
	for i := range v.Len() {
		if numberOf(v.Index(i)).Int() != int64(n) {
			return false
		}
	}
	return true
}

func numberOf(v reflect.Value) reflect.Value {
	if v.Kind() == reflect.Struct {
		return v.Field(0)
	}
	return v
}
