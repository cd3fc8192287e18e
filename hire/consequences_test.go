package hire_test

import (
	"math/rand"
	"reflect"
	"slices"
	"testing"

	"pecia/api"
	"pecia/hire"
)

// TestOneHand is of P4.12, for registers of all sizes.
func TestOneHand(t *testing.T) {
	waiting := 0
	greatRegisters(60, func(h api.Hires) {
		for day := 0; day <= api.MaxDay; day += 1 + day/20 {
			l, e := hire.Holds(h, day)
			wantErr(t, "Holds", e, api.OK)
			free, e := hire.Free(h, day)
			wantErr(t, "Free", e, api.OK)
			all := slices.Clone(free)
			holds := map[int]int{}
			for _, x := range l {
				all = append(all, x.Piece)
				if _, twice := holds[x.Scribe]; twice {
					t.Error("P4.12: a scribe holds two pieces:", h, day, l)
				}
				holds[x.Scribe] = x.Piece
				wantWhere(t, h, x.Piece, day, x.Scribe, true)
			}
			slices.Sort(all)
			stock := slices.Sorted(slices.Values(h.Pieces))
			want(t, "P4.12: pieces of Holds and Free", all, stock)
			for _, piece := range h.Pieces {
				waits, e := hire.Waits(h, piece, day)
				wantErr(t, "Waits", e, api.OK)
				for _, scribe := range waits {
					if holds[scribe] == piece {
						t.Error("P4.12: a scribe waits for what it holds:", h, day, scribe, piece)
					}
					waiting++
				}
			}
		}
	})
	if waiting < 1000 {
		t.Error("too few who wait:", waiting)
	}
}

// TestGreatRegisters is of P4.2 and P4.3, for registers of all sizes.
func TestGreatRegisters(t *testing.T) {
	greatRegisters(60, func(h api.Hires) {
		for day := 0; day <= api.MaxDay; day += 5 + day/10 {
			b := booksOf(h, day)
			for _, piece := range h.Pieces {
				scribe, is := b.holder(piece)
				wantWhere(t, h, piece, day, scribe, is)
				wantWaits(t, h, piece, day, b.waits[piece]...)
			}
			var holds []api.Held
			for scribe := range h.Scribes {
				if x, is := b.holds[scribe]; is {
					holds = append(holds, x)
				}
			}
			wantHolds(t, h, day, holds...)
		}
	})
}

// ringOf is a register of scribes in which each one waits for the piece of the next one of the first n, or of one of these, and some wait for free pieces besides.
func ringOf(r *rand.Rand, scribes, n int) api.Hires {
	h := register(scribes, upTo(1, api.MaxStock))
	for scribe := range scribes {
		h.Turns = append(h.Turns, hires(0, scribe, 1+scribe, 1))
	}
	for scribe := range scribes {
		other := (scribe + 1) % n
		if scribe >= n {
			other = r.Intn(scribe)
		}
		h.Turns = append(h.Turns, asks(1, scribe, 1+other))
		if r.Intn(9) == 0 {
			h.Turns = append(h.Turns, asks(1, scribe, api.MaxStock))
		}
	}
	return h
}

// TestStuckConsequences is of P4.13, for many scribes.
func TestStuckConsequences(t *testing.T) {
	r := rand.New(rand.NewSource(13))
	some, none := 0, 0
	for range 300 {
		n := 2 + r.Intn(5)
		h := ringOf(r, n+r.Intn(api.MaxScribes-n+1), n)
		stuck, e := hire.Stuck(h, 1)
		wantErr(t, "Stuck", e, api.OK)
		if len(stuck) > 0 {
			some++
			wantErr(t, "P4.13: CheckStuck of Stuck", hire.CheckStuck(h, 1, stuck), api.OK)
		} else {
			none++
		}
		for _, scribe := range stuck {
			free, e := hire.Waits(h, api.MaxStock, 1)
			wantErr(t, "Waits", e, api.OK)
			if slices.Contains(free, scribe) {
				t.Error("P4.13: one of Stuck waits for what nobody holds:", h, stuck)
			}
		}
		for range 30 {
			var group []int
			for scribe := range h.Scribes {
				if r.Intn(4) > 0 || scribe < n {
					group = append(group, scribe)
				}
			}
			if hire.CheckStuck(h, 1, group) != api.OK {
				continue
			}
			for _, scribe := range group {
				if !slices.Contains(stuck, scribe) {
					t.Error("P4.13: scribes wait for each other who are not among Stuck:", h, group, stuck)
				}
			}
		}
	}
	if some < 50 || none < 50 {
		t.Error("too few of a sort:", some, none)
	}
}

// someGets is gets that may be those of a deal, or nearly so.
func someGets(r *rand.Rand, d api.Deal) []int {
	n := len(d.Gets)
	if r.Intn(2) == 0 {
		return r.Perm(n)
	}
	gets := slices.Clone(d.Gets)
	a, b := r.Intn(n), r.Intn(n)
	gets[a], gets[b] = gets[b], gets[a]
	return gets
}

// TestNoObjection is of P4.14, for markets of all sizes.
func TestNoObjection(t *testing.T) {
	greatMarkets(300, func(r *rand.Rand, m api.Market) {
		d := dealOf(t, m)
		wantErr(t, "P4.14: CheckDeal of Make", hire.CheckDeal(m, d), api.OK)
		if !prove(m, d.Gets, d.Rounds) {
			t.Error("P4.14: rounds do not prove:", m, d)
		}
		group, own, is, e := hire.Objects(m, d.Gets)
		if is || e != api.OK || len(group)+len(own) > 0 {
			t.Error("P4.14: a group objects:", m, d, group, own, e)
		}
		for scribe, piece := range d.Gets {
			if likes(m, scribe, scribe, piece) {
				t.Error("P4.14: less than its own:", m, d, scribe)
			}
		}
		for range 20 {
			gets := someGets(r, d)
			is, e := hire.Better(m, gets, d.Gets)
			if is || e != api.OK {
				t.Error("P4.14: better gets:", m, d, gets, e)
			}
			if !slices.Equal(gets, d.Gets) && hire.CheckDeal(m, api.Deal{Gets: gets, Rounds: d.Rounds}) == api.OK {
				t.Error("P4.14: CheckDeal accepts other gets:", m, d, gets)
			}
		}
	})
}

// TestObjections is of P4.15, for markets of all sizes.
func TestObjections(t *testing.T) {
	others := 0
	greatMarkets(200, func(r *rand.Rand, m api.Market) {
		d := dealOf(t, m)
		for range 10 {
			gets := someGets(r, d)
			group, own, is, e := hire.Objects(m, gets)
			if e != api.OK || is == slices.Equal(gets, d.Gets) {
				t.Error("P4.15: Objects", m, d, gets, group, own, is, e)
			}
			if is {
				others++
				wantObjection(t, m, gets, group, own)
			}
		}
	})
	if others < 1000 {
		t.Error("too few other gets:", others)
	}
}

// wantHonest is that a scribe gets nothing better by telling other wishes.
func wantHonest(t *testing.T, m api.Market, scribe int, wishes []int) (other bool) {
	t.Helper()
	told, e := hire.Told(m, scribe, wishes)
	wantErr(t, "Told", e, api.OK)
	truly, falsely := dealOf(t, m).Gets[scribe], dealOf(t, told).Gets[scribe]
	if likes(m, scribe, falsely, truly) {
		t.Error("P4.16: a scribe does better with other wishes:", m, scribe, wishes, truly, falsely)
	}
	return truly != falsely
}

// TestHonest is of P4.16, by all wishes that a scribe of few can tell, and by some of many.
func TestHonest(t *testing.T) {
	others := 0
	for _, m := range smallMarkets() {
		if n := len(m.Wishes); n <= 4 {
			for scribe := range n {
				for _, wishes := range wishLists(n, scribe) {
					if wantHonest(t, m, scribe, wishes) {
						others++
					}
				}
			}
		}
	}
	greatMarkets(200, func(r *rand.Rand, m api.Market) {
		n := len(m.Wishes)
		for range 10 {
			scribe := r.Intn(n)
			if wantHonest(t, m, scribe, someWishes(r, n, scribe)) {
				others++
			}
		}
	})
	if others < 1000 {
		t.Error("too few wishes that tell:", others)
	}
}

// TestCases is of P4.17 and P4.18, for rows of all sizes.
func TestCases(t *testing.T) {
	r := rand.New(rand.NewSource(17))
	for range 300 {
		n := 2 + r.Intn(api.MaxStock-1)
		exchanges := someExchanges(r, n, r.Intn(30))
		row, e := hire.Exchange(upTo(0, n-1), exchanges)
		wantErr(t, "Exchange", e, api.OK)
		want(t, "Exchange", row, behindExchanges(upTo(0, n-1), exchanges))
		l, e := hire.Restore(row)
		wantErr(t, "Restore", e, api.OK)
		wantErr(t, "P4.17: CheckRestore of Restore", hire.CheckRestore(row, l), api.OK)
		if more := len(exchanges) - len(l); more < 0 || more%2 != 0 {
			t.Error("P4.18: Restore", row, l, exchanges)
		}
		all, e := hire.Loops(row)
		wantErr(t, "Loops", e, api.OK)
		want(t, "the exchanges of Restore", len(l), n-len(all))
		slices.Reverse(exchanges) // they bring all pieces back, but are too many, or just as many
		should := api.ErrProof
		if len(exchanges) == len(l) {
			should = api.OK
		}
		wantErr(t, "P4.17: CheckRestore", hire.CheckRestore(row, exchanges), should)
		wantFurther(t, r, row, len(l))
	}
}

// wantFurther is that Explain of all cases of a row is the row, and needs no less exchanges with each case that is found.
func wantFurther(t *testing.T, r *rand.Rand, row []int, needs int) {
	t.Helper()
	var l []api.Found
	before := 0
	for _, c := range r.Perm(len(row)) {
		l = append(l, found(c, row[c]))
		end, n, e := hire.Explain(len(row), l)
		wantErr(t, "Explain", e, api.OK)
		if n < before {
			t.Error("P4.18: Explain needs less with one more case:", l, n, before)
		}
		before = n
		if slices.ContainsFunc(l, func(x api.Found) bool { return end[x.Case] != x.Piece }) {
			t.Error("Explain", l, end)
		}
		exchanges, e := hire.Restore(end)
		if e != api.OK || len(exchanges) != n {
			t.Error("Explain, Restore", l, end, n, exchanges, e)
		}
		if len(l) == len(row) {
			want(t, "P4.17: Explain of all cases", end, row)
			want(t, "P4.17: Explain of all cases", n, needs)
		}
	}
}

// results is what all functions tell of a register, a market and a row, as values that own their memory.
func results(h api.Hires, m api.Market, gets, scribes, row []int, exchanges []api.Swop, cases []api.Found) []any {
	holds, _ := hire.Holds(h, 5)
	free, _ := hire.Free(h, 4)
	waits, _ := hire.Waits(h, 101, 5)
	late, _ := hire.Late(h, 13)
	ready, _ := hire.Ready(register(2, []int{5}, asks(0, 1, 5)), 0)
	stuck, _ := hire.Stuck(h, 5)
	deal, _ := hire.Make(m)
	group, own, _, _ := hire.Objects(m, gets)
	told, _ := hire.Told(m, 0, scribes[1:])
	loops, _ := hire.Loops(row)
	restored, _ := hire.Restore(row)
	end, _ := hire.Exchange(row, exchanges)
	same, _ := hire.Exchange(row, nil)
	explained, _, _ := hire.Explain(6, cases)
	hire.Check(h)
	hire.Where(h, 101, 5)
	hire.CheckStuck(h, 5, scribes)
	hire.CheckMarket(m)
	hire.CheckDeal(m, api.Deal{Gets: gets, Rounds: gets})
	hire.Better(m, gets, row[:4])
	hire.CheckObjects(m, gets, scribes, scribes)
	hire.CheckRestore(row, exchanges)
	return []any{holds, free, waits, late, ready, stuck, deal, group, own, told, loops, restored, end, same, explained}
}

// TestMemory is of R6 and R7: arguments stay as they are, results share no memory, and the same call has the same result.
func TestMemory(t *testing.T) {
	h, m := example(), exampleMarket()
	gets, scribes, row := []int{2, 1, 0, 3}, []int{0, 1, 2}, []int{2, 0, 1, 4, 3, 5}
	exchanges, cases := []api.Swop{swop(3, 4), swop(0, 5)}, []api.Found{found(4, 1), found(1, 2)}
	// Room behind the elements is not to be used.
	h.Pieces, h.Turns, m.Wishes[1] = slices.Grow(h.Pieces, 9), slices.Grow(h.Turns, 9), slices.Grow(m.Wishes[1], 9)
	should := results(h, m, gets, scribes, row, exchanges, cases)
	again := results(h, m, gets, scribes, row, exchanges, cases)
	want(t, "the same calls", again, should)
	owned := slicesOf(reflect.ValueOf(again))
	if len(owned) != 6+2+2+4+3+4 {
		t.Error("results:", len(owned))
	}
	for i, v := range owned {
		fill(v, 1000+i)
	}
	for i, v := range owned {
		if !isFilled(v, 1000+i) {
			t.Error("results share memory:", v)
		}
	}
	want(t, "the register", cloneHires(h), example())
	wantMarket(t, "the market", m, exampleMarket())
	want(t, "room behind the pieces", h.Pieces[:4][3], 0)
	want(t, "room behind the turns", h.Turns[:7][6], api.Turn{})
	want(t, "room behind the wishes", m.Wishes[1][:2][1], 0)
	want(t, "the gets", gets, []int{2, 1, 0, 3})
	want(t, "the scribes", scribes, []int{0, 1, 2})
	want(t, "the row", row, []int{2, 0, 1, 4, 3, 5})
	want(t, "the exchanges", exchanges, []api.Swop{swop(3, 4), swop(0, 5)})
	want(t, "what was found", cases, []api.Found{found(4, 1), found(1, 2)})
	want(t, "the results", results(h, m, gets, scribes, row, exchanges, cases), should)
}

// TestProofsAreNotChanged is of R6: what is told as a proof stays as it is, also where it is none.
func TestProofsAreNotChanged(t *testing.T) {
	for _, l := range [][]int{{3, 2, 1, 0}, {2, 0, 1}, {9, -1, 9}, {1, 1, 0, 0}} {
		a, b, c := slices.Clone(l), slices.Clone(l), slices.Clone(l)
		hire.CheckStuck(example(), 5, a)
		hire.CheckDeal(exampleMarket(), api.Deal{Gets: a, Rounds: b})
		hire.CheckObjects(exampleMarket(), []int{0, 1, 2, 3}, b, c)
		hire.CheckObjects(exampleMarket(), a, []int{0, 1, 2, 3}, c)
		hire.Better(exampleMarket(), a, b)
		hire.Objects(exampleMarket(), a)
		hire.Told(exampleMarket(), 0, a)
		hire.Loops(a)
		for _, after := range [][]int{a, b, c} {
			want(t, "a list", after, l)
		}
	}
}

// slicesOf is all slices within a value that have elements, but for those of slices.
func slicesOf(v reflect.Value) []reflect.Value {
	var l []reflect.Value
	switch v.Kind() {
	case reflect.Interface:
		return slicesOf(v.Elem())
	case reflect.Slice:
		if k := v.Type().Elem().Kind(); (k == reflect.Int || k == reflect.Struct) && v.Len() > 0 {
			l = append(l, v)
		}
		for i := range v.Len() {
			l = append(l, slicesOf(v.Index(i))...)
		}
	case reflect.Struct:
		for i := range v.NumField() {
			l = append(l, slicesOf(v.Field(i))...)
		}
	}
	return l
}

// fill sets what a slice has, and what it has room for besides, to a number, or to structs that begin with it.
func fill(v reflect.Value, n int) {
	for i := range v.Cap() {
		numberOf(v.Slice(0, v.Cap()).Index(i)).SetInt(int64(n))
	}
}

func isFilled(v reflect.Value, n int) bool {
	for i := range v.Len() {
		if numberOf(v.Index(i)).Int() != int64(n) {
			return false
		}
	}
	return true
}

func numberOf(v reflect.Value) reflect.Value {
	if v.Kind() == reflect.Struct {
		return v.Field(0)
	}
	return v
}
