package piece_test

import (
	"slices"
	"testing"

	"pecia/api"
	"pecia/piece"
)

// countSlowly counts orders by the sets of pieces that stand ahead; it is meant for up to 16 pieces.
func countSlowly(l []api.Piece) int {
	n := len(l)
	ways := make([]int, n<<n)
	for i := range n {
		ways[1<<i*n+i] = 1
	}
	for set := range 1 << n {
		for last := range n {
			k := ways[set*n+last]
			for next := 0; k > 0 && next < n; next++ {
				if set>>next&1 == 0 && fits(l[last], l[next]) {
					to := &ways[(set|1<<next)*n+next]
					*to = min(*to+k, api.MaxOrders)
				}
			}
		}
	}
	sum := 0
	for last := range n {
		sum = min(sum+ways[(1<<n-1)*n+last], api.MaxOrders)
	}
	return sum
}

// loops is n pieces that begin with their own catchword, which is the same for all.
func loops(n int) []api.Piece { return chain(words(2*n, 6)...) }

// ring is words in a ring, from each of which several pieces lead to the next one.
func ring(words, each int) []api.Piece {
	var l []int
	for w := range words {
		for range each {
			l = append(l, w+1, (w+1)%words+1)
		}
	}
	return chain(l...)
}

// deBruijn is 16 pieces, two from each of 8 words.
func deBruijn() []api.Piece {
	var l []int
	for w := range 8 {
		l = append(l, w+1, w*2%8+1, w+1, w*2%8+2)
	}
	return chain(l...)
}

// TestCount is of P1.4.
func TestCount(t *testing.T) {
	for _, x := range []struct {
		what string
		l    []api.Piece
		n    int
	}{
		{"example", example(), 2},
		{"example that goes round", without(example(), 5), 4},
		{"none", nil, 0},
		{"no order", without(example(), 4), 0},
		{"two parts", chain(1, 1, 2, 2), 0},
		{"surplus 2", chain(1, 2, 1, 2), 0},
		{"one piece", chain(1, 2), 1},
		{"one piece with its own catchword", chain(1, 1), 1},
		{"two that go round", chain(1, 2, 2, 1), 2},
		{"12 with the same word", loops(12), 479001600},
		{"13 with the same word", loops(13), api.MaxOrders},
		{"24 with the same word", loops(24), api.MaxOrders},
		{"a row with loops", append(loops(11), short(20, 5, 6), short(21, 6, 7)), 39916800},
		{"ring", ring(12, 2), 24 * 2048},
		{"thick ring", ring(8, 3), 24 * 256 * 2187},
		{"thicker ring", ring(6, 4), api.MaxOrders},
		{"long ring", ring(24, 1), 24},
		{"row", ring(24, 1)[1:], 1},
		{"de Bruijn", deBruijn(), 256},
	} {
		n, e := piece.Count(x.l)
		wantErr(t, x.what, e, api.OK)
		want(t, x.what, n, x.n)
	}
}

// TestCountSlowly is of P1.4.
func TestCountSlowly(t *testing.T) {
	at := 0
	somePieces(300, 13, func(l []api.Piece) {
		n, e := piece.Count(l)
		wantErr(t, "Count", e, api.OK)
		want(t, "Count", n, countSlowly(l))
		at += min(1, n)
	})
	if at < 100 {
		t.Error("too few lists with an order:", at)
	}
}

// TestJoints is of P1.5.
func TestJoints(t *testing.T) {
	for _, x := range []struct {
		l              []api.Piece
		sure, possible []api.Joint
	}{
		{example(), joints(1, 2, 3, 4), joints(1, 2, 2, 3, 2, 5, 3, 4, 4, 1, 4, 5)},
		{chain(1, 2), nil, nil},
		{chain(1, 1), nil, nil},
		{chain(1, 2, 2, 3), joints(1, 2), joints(1, 2)},
		{chain(1, 2, 2, 1), nil, joints(1, 2, 2, 1)},
		{chain(2, 1, 1, 2, 2, 3), joints(1, 2, 2, 3), joints(1, 2, 2, 3)},
		{chain(1, 1, 1, 1), nil, joints(1, 2, 2, 1)},
		{chain(1, 2, 2, 2, 2, 3), joints(1, 2, 2, 3), joints(1, 2, 2, 3)},
		{[]api.Piece{short(30, 1, 2), short(20, 2, 3), short(10, 3, 4)}, joints(20, 10, 30, 20), joints(20, 10, 30, 20)},
	} {
		sure, e := piece.Sure(x.l)
		wantErr(t, "Sure", e, api.OK)
		want(t, "Sure", sure, x.sure)
		possible, e := piece.Possible(x.l)
		wantErr(t, "Possible", e, api.OK)
		want(t, "Possible", possible, x.possible)
	}
	for _, l := range [][]api.Piece{nil, without(example(), 4), chain(1, 1, 2, 2)} {
		sure, e := piece.Sure(l)
		check(t, "Sure", e, api.ErrNone, len(sure) > 0)
		possible, e := piece.Possible(l)
		check(t, "Possible", e, api.ErrNone, len(possible) > 0)
	}
}

// TestEnds is of P1.6.
func TestEnds(t *testing.T) {
	for _, x := range []struct {
		l             []api.Piece
		firsts, lasts []int // of some order
	}{
		{example(), []int{1, 3}, []int{5}},
		{chain(1, 2), []int{1}, []int{1}},
		{chain(1, 1), []int{1}, []int{1}},
		{chain(1, 2, 2, 1), []int{1, 2}, []int{1, 2}},
		{chain(4, 1, 2, 1, 1, 2), []int{1}, []int{2}}, // the other ones can stand last only if they are behind it
		{[]api.Piece{short(3, 1, 2), short(1, 2, 2), short(2, 2, 2)}, []int{3}, []int{1, 2}},
		{[]api.Piece{short(3, 2, 1), short(2, 2, 2), short(1, 2, 2)}, []int{1, 2}, []int{3}},
	} {
		all, some, e := piece.Firsts(x.l)
		wantErr(t, "Firsts", e, api.OK)
		want(t, "Firsts of all", all, ifOne(x.firsts))
		want(t, "Firsts of some", some, x.firsts)
		all, some, e = piece.Lasts(x.l)
		wantErr(t, "Lasts", e, api.OK)
		want(t, "Lasts of all", all, ifOne(x.lasts))
		want(t, "Lasts of some", some, x.lasts)
	}
	for _, l := range [][]api.Piece{nil, without(example(), 4), chain(1, 1, 2, 2)} {
		all, some, e := piece.Firsts(l)
		check(t, "Firsts", e, api.ErrNone, len(all)+len(some) > 0)
		all, some, e = piece.Lasts(l)
		check(t, "Lasts", e, api.ErrNone, len(all)+len(some) > 0)
	}
}

// TestTryAll is of P1.2 to P1.7: all that is told is what trying all permutations tells.
func TestTryAll(t *testing.T) {
	with, without := 0, 0
	somePieces(1500, 6, func(l []api.Piece) {
		k := tryAll(l)
		n, e := piece.Count(l)
		wantErr(t, "Count", e, api.OK)
		want(t, "Count", n, len(k.orders))
		_, why, e := piece.Why(l)
		wantErr(t, "Why", e, api.OK)
		want(t, "Why", why, len(k.orders) == 0)
		rows, e := piece.Rows(l)
		wantErr(t, "Rows", e, api.OK)
		want(t, "Rows", len(rows), k.fewest)
		wantErr(t, "CheckRows", piece.CheckRows(l, rows), api.OK)
		order, e := piece.Find(l)
		if len(k.orders) == 0 {
			wantErr(t, "Find", e, api.ErrNone)
			without++
			return
		}
		with++
		if e != api.OK || !slices.ContainsFunc(k.orders, func(o []int) bool { return slices.Equal(o, order) }) {
			t.Error("Find", l, order, e)
		}
		sure, _ := piece.Sure(l)
		want(t, "Sure", sure, k.sure)
		possible, _ := piece.Possible(l)
		want(t, "Possible", possible, k.possible)
		all, some, _ := piece.Firsts(l)
		want(t, "Firsts of all", all, ifOne(k.firsts))
		want(t, "Firsts of some", some, k.firsts)
		all, some, _ = piece.Lasts(l)
		want(t, "Lasts of all", all, ifOne(k.lasts))
		want(t, "Lasts of some", some, k.lasts)
		for _, o := range k.orders[:min(20, len(k.orders))] {
			if !isOrder(t, l, o) {
				t.Error("IsOrder", l, o)
			}
		}
	})
	if with < 300 || without < 300 {
		t.Error("too few lists with an order, or without one:", with, without)
	}
}

// TestMostPieces is of R1 with as many pieces as there may be.
func TestMostPieces(t *testing.T) {
	for _, l := range [][]api.Piece{loops(24), ring(12, 2), ring(8, 3), ring(24, 1), ring(24, 1)[1:]} {
		order, e := piece.Find(l)
		if e != api.OK || !isOrder(t, l, order) {
			t.Error("Find", order, e)
		}
		possible, e := piece.Possible(l)
		wantErr(t, "Possible", e, api.OK)
		for _, j := range jointsOf(order) {
			if !slices.Contains(possible, j) {
				t.Error("not possible:", j)
			}
		}
	}
}
