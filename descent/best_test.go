package descent_test

import (
	"math"
	"math/rand"
	"slices"
	"testing"

	"pecia/api"
	"pecia/descent"
)

func wantLeast(t *testing.T, s api.Stock, least, count int) {
	t.Helper()
	n, e := descent.Least(s)
	wantErr(t, "Least", e, api.OK)
	want(t, "Least", n, least)
	n, e = descent.Count(s)
	wantErr(t, "Count", e, api.OK)
	want(t, "Count", n, count)
	d := bestDescent(t, s)
	want(t, "Arise of Best", d.Arise, least)
	wantErr(t, "CheckBest of Best", descent.CheckBest(s, d), api.OK)
}

func wantKins(t *testing.T, s api.Stock, surely, possibly []api.Kin) {
	t.Helper()
	l, e := descent.Surely(s)
	wantErr(t, "Surely", e, api.OK)
	want(t, "Surely", l, surely)
	l, e = descent.Possibly(s)
	wantErr(t, "Possibly", e, api.OK)
	want(t, "Possibly", l, possibly)
}

func wantMade(t *testing.T, s api.Stock, k api.Kin, should int) {
	t.Helper()
	n, e := descent.Made(s, k)
	wantErr(t, "Made", e, api.OK)
	if n != should {
		t.Error("Made", s, k, n, "want", should)
	}
}

func wantArose(t *testing.T, s api.Stock, slip int, surely, possibly []int) {
	t.Helper()
	all, some, e := descent.Arose(s, slip)
	wantErr(t, "Arose", e, api.OK)
	if !slices.Equal(all, surely) || !slices.Equal(some, possibly) {
		t.Error("Arose", s, slip, all, some, "want", surely, possibly)
	}
}

func wantTwice(t *testing.T, s api.Stock, should ...int) {
	t.Helper()
	l, e := descent.Twice(s)
	wantErr(t, "Twice", e, api.OK)
	want(t, "Twice", l, should)
}

// TestBestExamples is of P5.6 to P5.8, by the examples of the chapter.
func TestBestExamples(t *testing.T) {
	s := example()
	wantLeast(t, s, 5, 2)
	wantKins(t, s, kins(1, 0, 2, 1, 3, 2, 4, 1), kins(1, 0, 2, 1, 3, 2, 4, 1, 5, 2, 5, 3))
	wantMade(t, s, kin(4, 0), 1)
	wantMade(t, s, kin(5, 1), 1)
	wantArose(t, s, 50, list(5), list(5))
	wantArose(t, s, 10, list(1), list(1))
	wantTwice(t, s)
	s = less(s, 1, 2)
	wantLeast(t, s, 6, 1)
	wantTwice(t, s, 10)
}

// TestBest is of P5.6 to P5.8.
func TestBest(t *testing.T) {
	s := api.Stock{}
	wantLeast(t, s, 0, 1) // of no copies there is one descent
	wantKins(t, s, nil, nil)
	wantTwice(t, s)
	s = stock(made(1, 0, 0))
	wantLeast(t, s, 0, 1)
	wantKins(t, s, kins(1, 0), kins(1, 0))
	wantMade(t, s, kin(1, 0), 0)
	// A copy without slips can be from all others without any; IDs stand by their numbers, 0 ahead of all.
	s = stock(made(7, 9, 9), made(9, 0, 0), made(3, 1, 1))
	wantLeast(t, s, 0, 6)
	wantKins(t, s, kins(9, 0), kins(3, 0, 3, 9, 7, 0, 7, 3, 7, 9, 9, 0))
	// A slip comes back that its model does not have: it arises in two copies.
	s = stock(made(1, 0, 0, 5), made(2, 1, 1, 6), made(3, 2, 2, 5, 6))
	wantLeast(t, s, 3, 2)
	wantKins(t, s, kins(1, 0, 2, 0), kins(1, 0, 2, 0, 3, 1, 3, 2))
	wantMade(t, s, kin(3, 0), 1)
	wantMade(t, s, kin(2, 0), 0)
	wantArose(t, s, 5, list(1), list(1, 3))
	wantArose(t, s, 6, list(2), list(2, 3))
	wantTwice(t, s) // one of both in each, but not surely
	// So is a slip whose copies were all made at the same time.
	s = stock(made(1, 0, 1, 5), made(2, 0, 1, 5, 6), made(3, 1, 2, 5, 7), made(4, 0, 0, 8))
	wantLeast(t, s, 6, 1)
	wantArose(t, s, 5, list(1, 2, 3), list(1, 2, 3))
	wantTwice(t, s, 5)
	// The best model is the one with most slips of the copy, not that with the fewest others, nor the last one.
	s = stock(mended(made(4, 9, 9, 1, 2, 3), 7, 8, 9), made(1, 0, 0, 1), made(2, 1, 1, 1, 2, 7, 8, 9), made(3, 2, 2, 1))
	wantLeast(t, s, 6, 1)
	wantKins(t, s, kins(1, 0, 2, 1, 3, 1, 4, 2), kins(1, 0, 2, 1, 3, 1, 4, 2))
	wantMade(t, s, kin(4, 0), 2)
	wantMade(t, s, kin(4, 1), 1)
	wantMade(t, s, kin(4, 3), 1)
	wantMade(t, s, kin(3, 0), 1)
	wantArose(t, s, 3, list(4), list(4))
	wantArose(t, s, 1, list(1), list(1))
	// Books of models: the best one was not at hand.
	s.Copies[0].Models = list(0, 3)
	wantLeast(t, s, 7, 1)
	wantKins(t, s, kins(1, 0, 2, 1, 3, 1, 4, 3), kins(1, 0, 2, 1, 3, 1, 4, 3))
	wantMade(t, s, kin(4, 0), 1)
	wantArose(t, s, 2, list(2, 4), list(2, 4))
	wantTwice(t, s, 2)
}

// TestMadeErrors is of P5.7: what cannot be is ErrProof, behind ErrClash.
func TestMadeErrors(t *testing.T) {
	s := example()
	for _, child := range idsOf(s) {
		for _, parent := range append(idsOf(s), 0) {
			if why, _ := whyNot(s, kin(child, parent)); why != 0 {
				n, e := descent.Made(s, kin(child, parent))
				check(t, "Made of what cannot be", e, api.ErrProof, n != 0)
			}
		}
	}
	n, e := descent.Made(orphaned(), kin(1, 1))
	check(t, "Made with an orphan", e, api.ErrClash, n != 0)
}

// TestOrphaned is of P5.6 to P5.8: where a copy has no model, there are no descents.
func TestOrphaned(t *testing.T) {
	clash := []string{"Least", "Best", "Count", "Surely", "Possibly", "Made", "Arose", "Twice"}
	others := []string{"Slips", "Holders", "Cross", "Tree", "Lost", "Drop", "Can", "Why", "Models", "Orphans", "Rests", "At", "Without"}
	for _, s := range []api.Stock{orphaned(), stock(orphaned().Copies[1], orphaned().Copies[0]), stock(from(made(1, 0, 0, 10), 1000))} {
		calls := callsWith(1, 0, 10, api.Descent{Parents: list(0, 0)})
		for _, name := range clash {
			e, more := calls[name](s)
			check(t, name+" with an orphan", e, api.ErrClash, more)
		}
		for _, name := range others {
			e, _ := calls[name](s)
			wantErr(t, name+" with an orphan", e, api.OK)
		}
		for _, d := range []api.Descent{{}, {Parents: list(0, 0), Arise: 3}, {Parents: list(0, 1), Arise: 2}, {Parents: list(0), Arise: 1}} {
			wantErr(t, "CheckBest with an orphan", descent.CheckBest(s, d), api.ErrProof)
			l, e := descent.From(s, d, 1)
			check(t, "From with an orphan", e, api.ErrArg, len(l) > 0)
			l, e = descent.Below(s, d, 0)
			check(t, "Below with an orphan", e, api.ErrArg, len(l) > 0)
			n, e := descent.Meet(s, d, 1, 1)
			check(t, "Meet with an orphan", e, api.ErrArg, n != 0)
		}
	}
}

// TestCheckBest is of P5.6.
func TestCheckBest(t *testing.T) {
	s := example()
	for _, x := range []struct {
		parents []int
		arise   int
		e       api.Errno
	}{
		{list(0, 1, 2, 1, 3), 5, api.OK},
		{list(0, 1, 2, 1, 2), 5, api.OK},
		{list(0, 1, 2, 1, 3), 4, api.ErrProof},
		{list(0, 1, 2, 1, 3), 6, api.ErrProof},
		{list(0, 1, 2, 1, 3), -5, api.ErrProof},
		{list(0, 1, 2, 1, 1), 6, api.ErrProof}, // a descent, but not a best one
		{list(0, 1, 2, 1, 1), 5, api.ErrProof},
		{list(0, 0, 0, 0, 0), 13, api.ErrProof},
		{list(0, 0, 0, 0, 0), 5, api.ErrProof},
		{list(0, 1, 2, 1, 4), 5, api.ErrProof},
		{list(0, 1, 2, 2, 3), 4, api.ErrProof}, // fewer arise, but this cannot be
		{list(0, 1, 2, 1, 5), 5, api.ErrProof},
		{list(0, 1, 2, 1, 5), 4, api.ErrProof},
		{list(0, 1, 2, 1, 6), 5, api.ErrProof},
		{list(1, 1, 2, 1, 3), 4, api.ErrProof},
		{list(0, 1, 2, 1), 5, api.ErrProof},
		{list(0, 1, 2, 1, 3, 0), 5, api.ErrProof},
		{list(0, 1, 2, 1), 4, api.ErrProof},
		{nil, 5, api.ErrProof},
		{nil, 0, api.ErrProof},
		{list(-1, 1, 2, 1, 3), 5, api.ErrProof},
		{list(math.MaxInt, math.MinInt, 2, 1, 3), math.MaxInt, api.ErrProof},
	} {
		wantErr(t, "CheckBest", descent.CheckBest(s, api.Descent{Parents: x.parents, Arise: x.arise}), x.e)
	}
	wantErr(t, "CheckBest of nothing", descent.CheckBest(api.Stock{}, api.Descent{}), api.OK)
	wantErr(t, "CheckBest of nothing", descent.CheckBest(api.Stock{}, api.Descent{Arise: 1}), api.ErrProof)
	wantErr(t, "CheckBest of nothing", descent.CheckBest(api.Stock{}, api.Descent{Parents: list(0)}), api.ErrProof)
	// Parents stand in the order of the stock.
	other := stock(s.Copies[4], s.Copies[2], s.Copies[0], s.Copies[3], s.Copies[1])
	wantErr(t, "CheckBest, another order", descent.CheckBest(other, api.Descent{Parents: list(3, 2, 0, 1, 1), Arise: 5}), api.OK)
	wantErr(t, "CheckBest, another order", descent.CheckBest(other, api.Descent{Parents: list(0, 1, 2, 1, 3), Arise: 5}), api.ErrProof)
}

// fourEach is copies from n of which each one has four best models, and from one of which, perhaps, there are two.
func fourEach(n int, more bool) api.Stock {
	s := stock(from(made(1, 0, 0), 0), from(made(2, 0, 0), 0), from(made(3, 0, 0), 0))
	for i := range n {
		s.Copies = append(s.Copies, from(made(10+i, 1, 1), 0, 1, 2, 3))
	}
	if more {
		s.Copies = append(s.Copies, from(made(99, 1, 1), 0, 1))
	}
	return s
}

// TestGreatCounts is of P5.6: Count is at most api.MaxLists.
func TestGreatCounts(t *testing.T) {
	factorial := 1
	for n := 1; n <= api.MaxCopies; n++ {
		factorial = min(factorial*n, api.MaxLists)
		wantLeast(t, rows(n), 0, factorial)
	}
	wantLeast(t, rows(12), 0, 479001600)
	wantLeast(t, rows(13), 0, 1<<30)
	wantLeast(t, fourEach(14, false), 0, 1<<28)
	wantLeast(t, fourEach(14, true), 0, 1<<29)
	wantLeast(t, fourEach(15, false), 0, 1<<30)
	wantLeast(t, fourEach(15, true), 0, 1<<30)
	wantLeast(t, fourEach(20, true), 0, 1<<30)
	s := fourEach(15, false)
	s.Copies[17].Models = list(0, 2, 3)
	wantLeast(t, s, 0, 3<<28)
}

// surelyIn is what all of some lists have, possiblyIn what one of them has.
func surelyIn(all [][]int, n int) bool {
	return !slices.ContainsFunc(all, func(l []int) bool { return !has(l, n) })
}

func possiblyIn(all [][]int, n int) bool {
	return slices.ContainsFunc(all, func(l []int) bool { return has(l, n) })
}

// kinsIn is the kins that are so in all, and in some, of some descents.
func kinsIn(s api.Stock, all [][]int) (surely, possibly []api.Kin) {
	for _, child := range idsOf(s) {
		i := slices.IndexFunc(s.Copies, func(c api.Witness) bool { return c.ID == child })
		var parents [][]int
		for _, d := range all {
			parents = append(parents, list(d[i]))
		}
		for _, parent := range append(list(0), idsOf(s)...) {
			if surelyIn(parents, parent) {
				surely = append(surely, kin(child, parent))
			}
			if possiblyIn(parents, parent) {
				possibly = append(possibly, kin(child, parent))
			}
		}
	}
	return surely, possibly
}

// arisings is, for each of some descents, the copies in which a slip arises.
func arisings(s api.Stock, all [][]int, slip int) [][]int {
	var l [][]int
	for _, d := range all {
		var in []int
		for i, c := range s.Copies {
			if has(arisen(s, kin(c.ID, d[i])), slip) {
				in = append(in, c.ID)
			}
		}
		l = append(l, in)
	}
	return l
}

// TestBestAgrees is of P5.6 to P5.8, and P5.13 to P5.15, by trying all descents of small stocks.
func TestBestAgrees(t *testing.T) {
	some, none, twice := 0, 0, 0
	smallStocks(8, 1000, func(_ *rand.Rand, s api.Stock) {
		best, least := bestOf(s)
		if len(best) == 0 {
			none++
			n, e := descent.Least(s)
			check(t, "Least", e, api.ErrClash, n != 0)
			return
		}
		some++
		wantLeast(t, s, least, len(best))
		if d := bestDescent(t, s); !slices.ContainsFunc(best, func(l []int) bool { return slices.Equal(l, d.Parents) }) {
			t.Error("P5.13: Best", s, d, best)
		}
		if least < len(slipsOf(s)) {
			t.Error("P5.13: fewer arise than there are", s, least)
		}
		surely, possibly := kinsIn(s, best)
		wantKins(t, s, surely, possibly)
		all := descents(s)
		for _, parents := range all {
			arise := ariseIn(s, parents)
			for n := arise - 1; n <= arise+1; n++ {
				should := api.ErrProof
				if n == arise && arise == least {
					should = api.OK
				}
				wantErr(t, "P5.13: CheckBest", descent.CheckBest(s, api.Descent{Parents: parents, Arise: n}), should)
			}
		}
		wantMadeOf(t, s, all, least)
		twice += wantArising(t, s, best)
	})
	if some < 300 || none < 100 || twice < 100 {
		t.Error("too few of a sort:", some, none, twice)
	}
}

// wantMadeOf is what Made returns for all descents.
func wantMadeOf(t *testing.T, s api.Stock, all [][]int, least int) {
	t.Helper()
	for i, c := range s.Copies {
		for _, parent := range modelsOf(s, c.ID) {
			more := math.MaxInt
			for _, parents := range all {
				if parents[i] == parent {
					more = min(more, ariseIn(s, parents)-least)
				}
			}
			wantMade(t, s, kin(c.ID, parent), more)
		}
	}
}

// wantArising is what Arose and Twice return for all best descents, and how many slips arise twice.
func wantArising(t *testing.T, s api.Stock, best [][]int) int {
	t.Helper()
	var twice []int
	for _, slip := range slipsOf(s) {
		all := arisings(s, best, slip)
		surely := slices.DeleteFunc(idsOf(s), func(id int) bool { return !surelyIn(all, id) })
		possibly := slices.DeleteFunc(idsOf(s), func(id int) bool { return !possiblyIn(all, id) })
		wantArose(t, s, slip, surely, possibly)
		if !slices.ContainsFunc(all, func(l []int) bool { return len(l) < 2 }) {
			twice = append(twice, slip)
		}
	}
	wantTwice(t, s, twice...)
	return len(twice)
}

// What a kin is.
const (
	neither = iota
	possible
	sure
)

// standing is what a kin is, by all best descents.
func standing(s api.Stock, k api.Kin) int {
	best, _ := bestOf(s)
	if len(best) == 0 {
		return neither
	}
	surely, possibly := kinsIn(s, best)
	if slices.Contains(surely, k) {
		return sure
	}
	if slices.Contains(possibly, k) {
		return possible
	}
	return neither
}

func wantRests(t *testing.T, s api.Stock, k api.Kin, should ...int) {
	t.Helper()
	l, e := descent.Rests(s, k)
	wantErr(t, "Rests", e, api.OK)
	if !slices.Equal(l, should) {
		t.Error("Rests", s, k, l, "want", should)
	}
}

// TestRests is of P5.19.
func TestRests(t *testing.T) {
	s := example()
	wantRests(t, s, kin(5, 3), 2) // the chapter's examples
	wantRests(t, s, kin(4, 1))
	wantRests(t, s, kin(5, 2), 3)
	wantRests(t, s, kin(3, 0))
	wantRests(t, s, kin(3, 1), 2)
	wantRests(t, s, kin(4, 0), 1)
	wantRests(t, s, kin(2, 0), 1)
	wantRests(t, s, kin(5, 1))
	wantRests(t, less(s, 3), kin(5, 1), 2)
	wantRests(t, less(s, 1), kin(2, 0))
	wantRests(t, stock(made(1, 0, 0)), kin(1, 0))
	for _, child := range idsOf(s) {
		wantRests(t, s, kin(child, child))
	}
	// Without a copy that stays in the books another one has no model, and all kins are neither.
	s = stock(from(made(9, 5, 5, 1), 4), made(4, 0, 0, 1), made(6, 1, 1))
	wantRests(t, s, kin(9, 4))
	wantRests(t, s, kin(4, 0))
	wantRests(t, s, kin(6, 0), 4)
	// So they are with an orphan; without it they are something.
	s = stock(append(s.Copies, from(made(3, 0, 0), 77))...)
	wantRests(t, s, kin(9, 4), 3)
	wantRests(t, s, kin(4, 0), 3)
	wantRests(t, s, kin(3, 0)) // itself does not count
	s = stock(append(s.Copies, from(made(2, 0, 0), 77))...)
	wantRests(t, s, kin(9, 4))
	wantRests(t, s, kin(4, 0))
	// They are increasing, whatever the order of the stock.
	wantRests(t, stock(made(7, 9, 9, 1), made(5, 0, 0, 1), made(3, 0, 0, 1), made(1, 0, 0)), kin(7, 5), 3)
	wantRests(t, stock(from(made(8, 9, 9), 5, 7), from(made(7, 1, 1), 5), from(made(5, 0, 0), 0)), kin(7, 0))
	wantRests(t, stock(from(made(8, 9, 9), 5), from(made(7, 1, 1), 3), made(5, 0, 0), made(3, 0, 0), made(2, 5, 5)), kin(2, 0), 3, 5)
}

// TestRestsAgree is of P5.19 and P5.22, by all best descents of small stocks.
func TestRestsAgree(t *testing.T) {
	others, changed := 0, map[int]int{}
	smallStocks(9, 1000, func(_ *rand.Rand, s api.Stock) {
		for _, child := range idsOf(s) {
			for _, parent := range append(list(0), idsOf(s)...) {
				k := kin(child, parent)
				was := standing(s, k)
				rests := slices.DeleteFunc(idsOf(s), func(id int) bool {
					return id == child || id == parent || standing(less(s, id), k) == was
				})
				wantRests(t, s, k, rests...)
				changed[was] += len(rests)
				others += len(s.Copies)
			}
		}
	})
	if others < 1000 || changed[neither] < 50 || changed[possible] < 50 || changed[sure] < 30 {
		t.Error("too few of a sort:", others, changed)
	}
}
