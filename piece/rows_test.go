package piece_test

import (
	"slices"
	"testing"

	"pecia/api"
	"pecia/piece"
)

// TestRows is of P1.7.
func TestRows(t *testing.T) {
	for _, x := range []struct {
		what string
		l    []api.Piece
		n    int
	}{
		{"none", nil, 0},
		{"one piece", chain(1, 2), 1},
		{"an order", example(), 1},
		{"surplus 2", without(example(), 4), 2},
		{"parts that go round", chain(1, 1, 2, 2, 3, 4, 4, 3), 3},
		{"two parts, one with two rows", chain(1, 2, 1, 2, 3, 3), 3},
		{"two rows that end alike", chain(1, 3, 2, 3), 2},
		{"two rows that begin alike", chain(3, 1, 3, 2), 2},
		{"a round that hangs on a row", chain(1, 2, 2, 3, 2, 4, 4, 2), 1},
		{"rows through one word", chain(1, 5, 2, 5, 3, 5, 5, 6, 5, 7, 5, 8), 3},
		{"each by itself", chain(1, 2, 3, 4, 5, 6, 7, 8), 4},
		{"many that begin alike", chain(1, 2, 1, 2, 1, 2, 1, 2, 2, 1), 3},
	} {
		rows, e := piece.Rows(x.l)
		wantErr(t, x.what, e, api.OK)
		want(t, x.what, len(rows), x.n)
		wantErr(t, x.what, piece.CheckRows(x.l, rows), api.OK)
	}
}

// TestCheckRows is of P1.7.
func TestCheckRows(t *testing.T) {
	less := without(example(), 4)
	for _, x := range []struct {
		what string
		l    []api.Piece
		rows [][]int
		e    api.Errno
	}{
		{"none of none", nil, nil, api.OK},
		{"an empty row of none", nil, [][]int{{}}, api.ErrProof},
		{"a row of none", nil, [][]int{{1}}, api.ErrProof},
		{"two rows", less, [][]int{{1, 2, 3}, {5}}, api.OK},
		{"two other rows", less, [][]int{{3}, {1, 2, 5}}, api.OK},
		{"no rows", less, nil, api.ErrProof},
		{"three rows", less, [][]int{{1}, {2, 5}, {3}}, api.ErrProof},
		{"a piece is left", less, [][]int{{1, 2}, {5}}, api.ErrProof},
		{"a piece stands twice", less, [][]int{{1, 2, 3}, {1, 2, 5}}, api.ErrProof},
		{"a piece stands twice in a row", chain(1, 2, 2, 1), [][]int{{1, 2, 1}}, api.ErrProof},
		{"another ID", less, [][]int{{1, 2, 3}, {6}}, api.ErrProof},
		{"another ID besides", less, [][]int{{1, 2, 3}, {5, 4}}, api.ErrProof},
		{"an ID 0", less, [][]int{{1, 2, 3}, {0}}, api.ErrProof},
		{"no joint", less, [][]int{{1, 2, 3, 5}}, api.ErrProof},
		{"no joint, and two rows", less, [][]int{{2, 1}, {5, 3}}, api.ErrProof},
		{"an empty row", example(), [][]int{{1, 2, 3, 4, 5}, {}}, api.ErrProof},
		{"an empty row instead", example(), [][]int{{}}, api.ErrProof},
		{"an empty row for one of two", less, [][]int{{1, 2, 3, 5}, {}}, api.ErrProof},
		{"an order", example(), [][]int{{3, 4, 1, 2, 5}}, api.OK},
		{"an order cut in two", example(), [][]int{{3, 4}, {1, 2, 5}}, api.ErrProof},
		{"parts", chain(1, 1, 2, 2), [][]int{{2}, {1}}, api.OK},
		{"parts in one row", chain(1, 1, 2, 2), [][]int{{2, 1}}, api.ErrProof},
		{"wrong pieces", chain(1, 0), [][]int{{1}}, api.ErrArg},
		{"wrong pieces and rows", chain(1, 0), nil, api.ErrArg},
	} {
		wantErr(t, x.what, piece.CheckRows(x.l, x.rows), x.e)
	}
}

// gaps is gaps from pairs of words.
func gaps(words ...int) []api.Gap {
	var l []api.Gap
	for i := 0; i+1 < len(words); i += 2 {
		l = append(l, api.Gap{First: words[i], Catch: words[i+1]})
	}
	return l
}

// TestMissing is of P1.8.
func TestMissing(t *testing.T) {
	for _, x := range []struct {
		what string
		l    []api.Piece
		gaps []api.Gap
	}{
		{"none", nil, nil},
		{"example", without(example(), 4), gaps(8, 5, 9, 5)},
		{"two rounds", chain(1, 1, 2, 2), gaps(1, 2, 2, 1)},
		{"three rounds", chain(1, 1, 2, 2, 3, 3), nil},
		{"two alike", chain(1, 2, 1, 2), gaps(2, 1)},
		{"two by themselves", chain(1, 2, 3, 4), gaps(2, 3, 4, 1)},
		{"a row and a round", chain(1, 2, 3, 3), gaps(2, 3, 3, 1)},
		{"three by themselves", chain(1, 2, 3, 4, 5, 6), nil},
		{"surplus 3", chain(1, 2, 1, 2, 1, 2), nil},
		{"the first word is not the least", chain(9, 4, 7, 2), gaps(2, 9, 4, 7)},
	} {
		got, e := piece.Missing(x.l)
		wantErr(t, x.what, e, api.OK)
		want(t, x.what, got, x.gaps)
	}
}

// TestMissingErrors is of P1.8.
func TestMissingErrors(t *testing.T) {
	full := append(loops(23), short(24, 1, 1))
	for _, x := range []struct {
		what string
		l    []api.Piece
		e    api.Errno
	}{
		{"an order", example(), api.ErrTwice},
		{"one piece", chain(1, 1), api.ErrTwice},
		{"most pieces without an order", full, api.ErrLimit},
		{"most pieces with an order", loops(24), api.ErrLimit},
		{"one piece less with an order", loops(23), api.ErrTwice},
		{"wrong pieces", append(loops(23), short(24, 1, 0)), api.ErrArg},
	} {
		got, e := piece.Missing(x.l)
		check(t, x.what, e, x.e, len(got) > 0)
	}
	got, e := piece.Missing(full[1:])
	wantErr(t, "one piece less without an order", e, api.OK)
	want(t, "one piece less without an order", got, gaps(1, 6, 6, 1))
}

// TestMissingTryAll is of P1.8, and of P1.15.
func TestMissingTryAll(t *testing.T) {
	some := 0
	somePieces(300, 4, func(l []api.Piece) {
		k := tryAll(l)
		if len(k.orders) > 0 {
			return
		}
		got, e := piece.Missing(l)
		wantErr(t, "Missing", e, api.OK)
		var ws []int
		for _, p := range l {
			ws = append(ws, p.Words[0], p.Catch)
		}
		slices.Sort(ws)
		ws = slices.Compact(ws)
		var should []api.Gap
		for _, first := range ws {
			for _, catch := range ws {
				if len(tryAll(append(slices.Clone(l), short(99, first, catch))).orders) > 0 {
					should = append(should, api.Gap{First: first, Catch: catch})
				}
			}
		}
		want(t, "Missing", got, should)
		if k.fewest == 2 && len(got) == 0 {
			t.Error("P1.15: no gap, though two rows:", l)
		}
		some += len(got)
	})
	if some < 50 {
		t.Error("too few gaps:", some)
	}
}
