package piece_test

import (
	"math/rand"
	"reflect"
	"slices"
	"testing"

	"pecia/api"
	"pecia/piece"
)

// TestOrdersAgree is of P1.12 and P1.13.
func TestOrdersAgree(t *testing.T) {
	one, more := 0, 0
	somePieces(600, api.MaxPieces, func(l []api.Piece) {
		n, e := piece.Count(l)
		wantErr(t, "Count", e, api.OK)
		_, why, e := piece.Why(l)
		wantErr(t, "Why", e, api.OK)
		order, e := piece.Find(l)
		if (n >= 1) == why || (n >= 1) != (e == api.OK) {
			t.Error("Count, Why, Find:", l, n, why, e)
		}
		if e != api.OK {
			return
		}
		if !isOrder(t, l, order) {
			t.Error("Find", l, order)
		}
		sure, _ := piece.Sure(l)
		possible, _ := piece.Possible(l)
		_, firsts, _ := piece.Firsts(l)
		_, lasts, _ := piece.Lasts(l)
		has := jointsOf(order)
		for _, j := range sure {
			if !slices.Contains(has, j) {
				t.Error("a sure joint is missing:", l, order, j)
			}
		}
		for _, j := range has {
			if !slices.Contains(possible, j) {
				t.Error("a joint is not possible:", l, order, j)
			}
		}
		if !slices.Contains(firsts, order[0]) || !slices.Contains(lasts, order[len(order)-1]) {
			t.Error("Firsts, Lasts:", l, order, firsts, lasts)
		}
		if (n == 1) != slices.Equal(sure, possible) {
			t.Error("P1.13:", l, n, sure, possible)
		}
		one += min(1, n) - min(1, n-1)
		more += min(1, n-1)
	})
	if one < 20 || more < 100 {
		t.Error("too few lists of a sort:", one, more)
	}
}

// TestJustOne is of P1.13.
func TestJustOne(t *testing.T) {
	for _, x := range []struct {
		l   []api.Piece
		one bool
	}{
		{chain(1, 2), true},
		{chain(1, 2, 2, 3, 3, 4), true},
		{chain(1, 2, 2, 1), false},
		{chain(1, 1, 1, 1), false},
		{example(), false},
	} {
		sure, _ := piece.Sure(x.l)
		possible, _ := piece.Possible(x.l)
		n, _ := piece.Count(x.l)
		if (n == 1) != x.one || slices.Equal(sure, possible) != x.one {
			t.Error(x.l, n, sure, possible)
		}
	}
}

// TestRowsAgree is of P1.14.
func TestRowsAgree(t *testing.T) {
	somePieces(300, 20, func(l []api.Piece) {
		rows, e := piece.Rows(l)
		wantErr(t, "Rows", e, api.OK)
		wantErr(t, "CheckRows", piece.CheckRows(l, rows), api.OK)
		n, _ := piece.Count(l)
		if (len(rows) == 1) != (n > 0) {
			t.Error("one row, and orders:", l, rows, n)
		}
		for _, p := range l {
			less, e := piece.Rows(without(l, p.ID))
			wantErr(t, "Rows", e, api.OK)
			if d := len(less) - len(rows); d < -1 || d > 1 {
				t.Error("without a piece:", l, p, len(rows), len(less))
			}
		}
		for _, p := range []api.Piece{short(99, 1, 2), short(99, 2, 2), short(99, 50, 60), short(99, 1, 50)} {
			more, e := piece.Rows(append(clonePieces(l), p))
			wantErr(t, "Rows", e, api.OK)
			if d := len(more) - len(rows); d < -1 || d > 1 {
				t.Error("with a further piece:", l, p, len(rows), len(more))
			}
		}
	})
}

// TestGapsAgree is of P1.15.
func TestGapsAgree(t *testing.T) {
	some := 0
	somePieces(1000, 9, func(l []api.Piece) {
		rows, _ := piece.Rows(l)
		gaps, e := piece.Missing(l)
		if len(rows) == 1 {
			wantErr(t, "Missing", e, api.ErrTwice)
			return
		}
		wantErr(t, "Missing", e, api.OK)
		if len(rows) == 2 && len(gaps) == 0 {
			t.Error("no gap, though two rows:", l)
		}
		for _, g := range gaps {
			with := append(clonePieces(l), short(99, g.First, g.Catch))
			if order, e := piece.Find(with); e != api.OK || !isOrder(t, with, order) {
				t.Error("no order with a gap:", l, g, order, e)
			}
		}
		some += len(gaps)
	})
	if some < 100 {
		t.Error("too few gaps:", some)
	}
}

// TestTextsAgree is of P1.16.
func TestTextsAgree(t *testing.T) {
	r := rand.New(rand.NewSource(16))
	for range 300 {
		var text, ends, own []int
		for i := range 1 + r.Intn(api.MaxPieces) {
			for range 1 + r.Intn(api.MaxWords) {
				text = append(text, 1+r.Intn(9))
			}
			ends = append(ends, len(text))
			own = append(own, i+1)
		}
		l, e := piece.Cut(text, ends)
		wantErr(t, "Cut", e, api.OK)
		if !isOrder(t, l, own) {
			t.Error("its own order is none:", l)
		}
		again, e := piece.Text(l, own)
		wantErr(t, "Text", e, api.OK)
		want(t, "Text of Cut", again, text)
	}
}

// someBooks calls do with quires, always the same ones.
func someBooks(do func(l []api.Quire)) {
	r := rand.New(rand.NewSource(17))
	for range 100 {
		l := manyQuires(r.Intn(api.MaxQuires + 1))
		r.Shuffle(len(l), func(i, k int) { l[i], l[k] = l[k], l[i] })
		for i := range l {
			l[i].Leaves = 2 + 2*r.Intn(api.MaxLeaves/2)
			for n := range l[i].Leaves {
				if r.Intn(4) == 0 {
					l[i].Gone = append(l[i].Gone, n+1)
				}
			}
		}
		do(l)
	}
}

// TestCollationsAgree is of P1.17.
func TestCollationsAgree(t *testing.T) {
	someBooks(func(l []api.Quire) {
		text, e := piece.Print(l)
		wantErr(t, "Print", e, api.OK)
		again, e, at := piece.Parse(text)
		if e != api.OK || at != 0 {
			t.Error("Parse", text, e, at)
		}
		wantQuires(t, text, again, l)
		if print, e := piece.Print(again); e != api.OK || print != text {
			t.Error("Print of Parse", text, print, e)
		}
		leaves := 0
		for i, q := range l {
			for n := 1; n <= q.Leaves; n++ {
				if !slices.Contains(q.Gone, n) {
					leaves++
					leafAgrees(t, l, api.Leaf{Quire: i, Number: n}, leaves)
				}
			}
		}
		if _, e := piece.LeafOf(l, leaves+1); e != api.ErrNone {
			t.Error("LeafOf", text, leaves+1, e)
		}
	})
}

func leafAgrees(t *testing.T, l []api.Quire, f api.Leaf, n int) {
	t.Helper()
	got, e := piece.LeafOf(l, n)
	wantErr(t, "LeafOf", e, api.OK)
	want(t, "LeafOf", got, f)
	number, e := piece.NumberOf(l, f)
	wantErr(t, "NumberOf", e, api.OK)
	want(t, "NumberOf", number, n)
	p, is, e := piece.Partner(l, f)
	wantErr(t, "Partner", e, api.OK)
	opposite := l[f.Quire].Leaves + 1 - f.Number
	want(t, "Partner", is, !slices.Contains(l[f.Quire].Gone, opposite))
	if is {
		want(t, "Partner", p, api.Leaf{Quire: f.Quire, Number: opposite})
		own, is, e := piece.Partner(l, p)
		if e != api.OK || !is || own != f {
			t.Error("the partner's partner:", l, f, p, own, is, e)
		}
	}
}

// TestAnyNames is of P1.18.
func TestAnyNames(t *testing.T) {
	r := rand.New(rand.NewSource(18))
	somePieces(300, 12, func(l []api.Piece) {
		name := map[int]int{}
		renamed := clonePieces(l)
		for i, id := range r.Perm(len(l)) {
			name[l[i].ID] = api.MaxID - 3*id
			renamed[i].ID = name[l[i].ID]
		}
		r.Shuffle(len(l), func(i, k int) { renamed[i], renamed[k] = renamed[k], renamed[i] })
		n, _ := piece.Count(l)
		m, e := piece.Count(renamed)
		wantErr(t, "Count", e, api.OK)
		want(t, "Count", m, n)
		for _, f := range []func([]api.Piece) ([]api.Joint, api.Errno){piece.Sure, piece.Possible} {
			a, e := f(l)
			b, g := f(renamed)
			for i, j := range a {
				a[i] = api.Joint{Before: name[j.Before], After: name[j.After]}
			}
			slices.SortFunc(a, compareJoints)
			wantErr(t, "Sure, Possible", g, e)
			want(t, "Sure, Possible", b, a)
		}
		for _, f := range []func([]api.Piece) ([]int, []int, api.Errno){piece.Firsts, piece.Lasts} {
			allA, someA, e := f(l)
			allB, someB, g := f(renamed)
			wantErr(t, "Firsts, Lasts", g, e)
			for i, a := range [][]int{allA, someA} {
				for k := range a {
					a[k] = name[a[k]]
				}
				slices.Sort(a)
				want(t, "Firsts, Lasts", [][]int{allB, someB}[i], a)
			}
		}
	})
}

// TestMemory is of R6 and R7: arguments stay as they are, results share no memory, and the same call has the same result.
func TestMemory(t *testing.T) {
	for _, l := range [][]api.Piece{example(), without(example(), 4), without(example(), 5), chain(1, 1, 2, 2), chain(2, 3, 1, 2)} {
		kept := clonePieces(l)
		results := func() []any {
			var all []any
			followers, _ := piece.Followers(l, 1)
			order, _ := piece.Find(l)
			bar, _, _ := piece.Why(l)
			sure, _ := piece.Sure(l)
			possible, _ := piece.Possible(l)
			firsts, someFirsts, _ := piece.Firsts(l)
			lasts, someLasts, _ := piece.Lasts(l)
			rows, _ := piece.Rows(l)
			gaps, _ := piece.Missing(l)
			text, _ := piece.Text(l, order)
			all = append(all, followers, order, bar.Words, sure, possible, firsts, someFirsts, lasts, someLasts, gaps, text)
			for _, ids := range append(bar.Parts, rows...) {
				all = append(all, ids)
			}
			return all
		}
		first, second := results(), results()
		want(t, "the same calls", second, first)
		for i, x := range second {
			fill(x, 1000+i)
		}
		for i, x := range second {
			if !isFilled(x, 1000+i) {
				t.Error("results share memory:", x)
			}
		}
		want(t, "arguments", l, kept)
		want(t, "results", results(), first)
	}
}

// fill sets what a slice has, and what it has room for besides, to a number, or to structs that begin with it.
func fill(slice any, n int) {
	v := reflect.ValueOf(slice)
	for i := range v.Cap() {
		numberOf(v.Slice(0, v.Cap()).Index(i)).SetInt(int64(n))
	}
}

func isFilled(slice any, n int) bool {
	v := reflect.ValueOf(slice)
	for i := range v.Len() {
		if numberOf(v.Index(i)).Int() != int64(n) {
			return false
		}
	}
	return true
}

func numberOf(v reflect.Value) reflect.Value {
	if v.Kind() == reflect.Struct {
		return v.Field(0)
	}
	return v
}

// TestMemoryOfCut is of R6: the pieces of a text share no memory with it, or with each other.
func TestMemoryOfCut(t *testing.T) {
	text, ends := []int{5, 6, 7, 7, 1, 5}, []int{3, 6}
	l, _ := piece.Cut(text, ends)
	again, _ := piece.Cut(text, ends)
	_ = append(l[0].Words, 9, 9, 9)
	want(t, "the second piece", l[1].Words, []int{7, 1, 5})
	fill(l[0].Words, 8)
	fill(l[1].Words, 8)
	want(t, "the text", text, []int{5, 6, 7, 7, 1, 5})
	want(t, "the ends", ends, []int{3, 6})
	want(t, "other results", again[0].Words, []int{5, 6, 7})
}

// TestMemoryOfParse is of R6: quires share no memory with each other.
func TestMemoryOfParse(t *testing.T) {
	l, _, _ := piece.Parse("A8-1-2 B6-3 C4-4")
	_ = append(l[0].Gone, 9, 9, 9)
	_ = append(l[1].Gone, 9, 9, 9)
	wantQuires(t, "quires", l, []api.Quire{quire("A", 8, 1, 2), quire("B", 6, 3), quire("C", 4, 4)})
	q := []api.Quire{quire("A", 8, 1, 2), quire("B", 6, 3)}
	piece.Print(q)
	piece.LeafOf(q, 1)
	piece.NumberOf(q, api.Leaf{Quire: 1, Number: 1})
	piece.Partner(q, api.Leaf{Quire: 1, Number: 1})
	wantQuires(t, "arguments", q, []api.Quire{quire("A", 8, 1, 2), quire("B", 6, 3)})
}
