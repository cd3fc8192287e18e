package piece_test

import (
	"testing"

	"pecia/api"
	"pecia/piece"
)

// TestCheck is of P1.1.
func TestCheck(t *testing.T) {
	right := func(change func(p *api.Piece)) []api.Piece {
		l := example()
		change(&l[2])
		return l
	}
	many := make([]api.Piece, api.MaxPieces)
	for i := range many {
		many[i] = short(i+1, 1, 1)
	}
	for _, x := range []struct {
		what string
		l    []api.Piece
		e    api.Errno
	}{
		{"none", nil, api.OK},
		{"example", example(), api.OK},
		{"least ID", []api.Piece{short(1, 1, 1)}, api.OK},
		{"greatest ID", right(func(p *api.Piece) { p.ID = api.MaxID }), api.OK},
		{"ID too great", right(func(p *api.Piece) { p.ID = api.MaxID + 1 }), api.ErrArg},
		{"ID 0", right(func(p *api.Piece) { p.ID = 0 }), api.ErrArg},
		{"ID -1", right(func(p *api.Piece) { p.ID = -1 }), api.ErrArg},
		{"no words", right(func(p *api.Piece) { p.Words = nil }), api.ErrArg},
		{"most words", right(func(p *api.Piece) { p.Words = words(api.MaxWords, 3) }), api.OK},
		{"too many words", right(func(p *api.Piece) { p.Words = words(api.MaxWords+1, 3) }), api.ErrArg},
		{"greatest word", right(func(p *api.Piece) { p.Words = []int{1, api.MaxWord} }), api.OK},
		{"first word 0", right(func(p *api.Piece) { p.Words = []int{0, 1} }), api.ErrArg},
		{"last word 0", right(func(p *api.Piece) { p.Words = []int{1, 0} }), api.ErrArg},
		{"word -1", right(func(p *api.Piece) { p.Words = []int{1, -1, 1} }), api.ErrArg},
		{"word too great", right(func(p *api.Piece) { p.Words = []int{1, api.MaxWord + 1} }), api.ErrArg},
		{"greatest catchword", right(func(p *api.Piece) { p.Catch = api.MaxWord }), api.OK},
		{"catchword too great", right(func(p *api.Piece) { p.Catch = api.MaxWord + 1 }), api.ErrArg},
		{"catchword 0", right(func(p *api.Piece) { p.Catch = 0 }), api.ErrArg},
		{"catchword -1", right(func(p *api.Piece) { p.Catch = -1 }), api.ErrArg},
		{"twice", right(func(p *api.Piece) { p.ID = 5 }), api.ErrTwice},
		{"twice and wrong", right(func(p *api.Piece) { p.ID, p.Catch = 1, 0 }), api.ErrArg},
		{"most pieces", many, api.OK},
		{"too many pieces", append(many[:api.MaxPieces:api.MaxPieces], short(100, 1, 1)), api.ErrLimit},
		{"too many wrong pieces", make([]api.Piece, api.MaxPieces+1), api.ErrLimit},
		{"twice, then wrong", []api.Piece{short(1, 1, 1), short(1, 1, 1), short(2, 0, 1)}, api.ErrTwice},
		{"wrong, then twice", []api.Piece{short(1, 1, 1), short(2, 0, 1), short(1, 1, 1)}, api.ErrArg},
	} {
		wantErr(t, x.what, piece.Check(x.l), x.e)
	}
}

// TestCheckFirst is of the sentence ahead of P1.1: each function returns the error of Check first, and nothing else.
func TestCheckFirst(t *testing.T) {
	for want, l := range map[api.Errno][]api.Piece{
		api.ErrArg:   {short(0, 1, 1)},
		api.ErrTwice: {short(1, 1, 1), short(1, 1, 1)},
		api.ErrLimit: make([]api.Piece, api.MaxPieces+1),
	} {
		is, e := piece.Fits(l, api.Joint{Before: 7, After: 8})
		check(t, "Fits", e, want, is)
		ids, e := piece.Followers(l, 7)
		check(t, "Followers", e, want, len(ids) > 0)
		is, e = piece.IsOrder(l, []int{1, 2})
		check(t, "IsOrder", e, want, is)
		ids, e = piece.Find(l)
		check(t, "Find", e, want, len(ids) > 0)
		bar, is, e := piece.Why(l)
		check(t, "Why", e, want, is || len(bar.Words)+len(bar.Parts) > 0)
		n, e := piece.Count(l)
		check(t, "Count", e, want, n != 0)
		joints, e := piece.Sure(l)
		check(t, "Sure", e, want, len(joints) > 0)
		joints, e = piece.Possible(l)
		check(t, "Possible", e, want, len(joints) > 0)
		all, some, e := piece.Firsts(l)
		check(t, "Firsts", e, want, len(all)+len(some) > 0)
		all, some, e = piece.Lasts(l)
		check(t, "Lasts", e, want, len(all)+len(some) > 0)
		rows, e := piece.Rows(l)
		check(t, "Rows", e, want, len(rows) > 0)
		check(t, "CheckRows", piece.CheckRows(l, [][]int{{1}, {1}}), want, false)
		gaps, e := piece.Missing(l)
		check(t, "Missing", e, want, len(gaps) > 0)
		ids, e = piece.Text(l, []int{1, 2})
		check(t, "Text", e, want, len(ids) > 0)
	}
}

// check is that there is an error, and with it nothing else.
func check(t *testing.T, what string, got, want api.Errno, more bool) {
	t.Helper()
	wantErr(t, what, got, want)
	if more {
		t.Error(what, "returns something with an error")
	}
}

// TestFits is of P1.1.
func TestFits(t *testing.T) {
	l := append(example(), short(6, 4, 4), short(7, 4, 4), api.Piece{ID: 8, Words: []int{3, 7}, Catch: 4})
	for _, x := range []struct {
		before, after int
		is            bool
		e             api.Errno
	}{
		{1, 2, true, api.OK},
		{2, 1, true, api.OK},
		{1, 3, false, api.OK},
		{1, 8, false, api.OK}, // only the first word counts
		{8, 6, true, api.OK},
		{6, 6, false, api.OK},
		{6, 7, true, api.OK},
		{7, 6, true, api.OK},
		{1, 9, false, api.ErrNone},
		{9, 1, false, api.ErrNone},
		{9, 9, false, api.ErrNone},
		{0, 0, false, api.ErrNone},
	} {
		is, e := piece.Fits(l, api.Joint{Before: x.before, After: x.after})
		if is != x.is || e != x.e {
			t.Error(x, is, e)
		}
	}
	if _, e := piece.Fits(nil, api.Joint{}); e != api.ErrNone {
		t.Error("of no pieces:", e)
	}
}

// TestFollowers is of P1.1.
func TestFollowers(t *testing.T) {
	l := []api.Piece{short(9, 5, 5), short(3, 5, 5), short(7, 5, 8), short(2, 6, 5), short(5, 5, 6)}
	for id, ids := range map[int][]int{9: {3, 5, 7}, 3: {5, 7, 9}, 7: nil, 2: {3, 5, 7, 9}, 5: {2}} {
		got, e := piece.Followers(l, id)
		wantErr(t, "Followers", e, api.OK)
		want(t, "Followers", got, ids)
	}
	for _, id := range []int{0, -1, 1, api.MaxID + 1} {
		got, e := piece.Followers(l, id)
		check(t, "Followers of another ID", e, api.ErrNone, len(got) > 0)
	}
}

// TestIsOrder is of P1.2.
func TestIsOrder(t *testing.T) {
	l := example()
	for _, x := range []struct {
		order []int
		is    bool
	}{
		{[]int{1, 2, 3, 4, 5}, true},
		{[]int{3, 4, 1, 2, 5}, true},
		{[]int{5, 1, 2, 3, 4}, false},
		{[]int{1, 2, 3, 4}, false},
		{[]int{1, 2, 1, 2, 5}, false},
		{[]int{1, 2, 1, 2, 3, 4, 5}, false},
		{[]int{1, 2, 3, 4, 6}, false},
		{[]int{1, 2, 3, 4, 5, 6}, false},
		{[]int{0, 1, 2, 3, 4, 5}, false},
		{[]int{2, 1, 3, 4, 5}, false},
		{nil, false},
		{[]int{}, false},
		{make([]int, 1000), false},
	} {
		if is := isOrder(t, l, x.order); is != x.is {
			t.Error(x, is)
		}
	}
	for _, order := range [][]int{nil, {}, {1}, {0}} {
		if isOrder(t, nil, order) {
			t.Error("of no pieces", order, "is an order")
		}
	}
	if one := chain(4, 4); !isOrder(t, one, []int{1}) || isOrder(t, one, []int{1, 1}) || isOrder(t, one, nil) {
		t.Error("of one piece")
	}
}

// TestFind is of P1.2, and of P1.12.
func TestFind(t *testing.T) {
	for _, l := range [][]api.Piece{example(), chain(1, 2), chain(1, 1), chain(1, 1, 1, 1), chain(1, 2, 2, 1, 1, 1), chain(3, 4, 2, 3, 1, 2)} {
		order, e := piece.Find(l)
		wantErr(t, "Find", e, api.OK)
		if !isOrder(t, l, order) {
			t.Error("Find", l, order)
		}
	}
	for _, l := range [][]api.Piece{nil, without(example(), 4), chain(1, 1, 2, 2), chain(1, 2, 1, 2), chain(1, 2, 3, 4)} {
		order, e := piece.Find(l)
		check(t, "Find", e, api.ErrNone, len(order) > 0)
	}
}

// TestWhy is of P1.3.
func TestWhy(t *testing.T) {
	for _, x := range []struct {
		l   []api.Piece
		is  bool
		bar api.Bar
	}{
		{example(), false, api.Bar{}},
		{chain(1, 2, 2, 1), false, api.Bar{}},
		{chain(6, 6), false, api.Bar{}},
		{nil, true, api.Bar{}},
		{without(example(), 4), true, api.Bar{Words: []int{5, 8, 9}, Parts: [][]int{{1, 2, 3, 5}}}},
		{chain(1, 1, 2, 2), true, api.Bar{Parts: [][]int{{1}, {2}}}},
		{chain(1, 2, 1, 2), true, api.Bar{Words: []int{1, 2}, Parts: [][]int{{1, 2}}}},
		{chain(2, 1, 2, 1), true, api.Bar{Words: []int{1, 2}, Parts: [][]int{{1, 2}}}},
		{chain(1, 3, 2, 3), true, api.Bar{Words: []int{1, 2, 3}, Parts: [][]int{{1, 2}}}},
		{chain(1, 2, 3, 3), true, api.Bar{Words: []int{1, 2}, Parts: [][]int{{1}, {2}}}},
		{chain(1, 2, 3, 4, 2, 9, 4, 3), true, api.Bar{Words: []int{1, 9}, Parts: [][]int{{1, 3}, {2, 4}}}},
		// The parts of the first pieces turn out to be one only with the last piece.
		{chain(1, 2, 3, 4, 5, 6, 2, 5, 4, 1, 7, 7), true, api.Bar{Words: []int{3, 6}, Parts: [][]int{{1, 2, 3, 4, 5}, {6}}}},
		{[]api.Piece{short(9, 1, 1), short(4, 2, 3), short(7, 2, 2), short(2, 8, 8)}, true, api.Bar{Words: []int{2, 3}, Parts: [][]int{{2}, {4, 7}, {9}}}},
		// A word in the middle of a piece joins nothing.
		{[]api.Piece{{ID: 1, Words: []int{1, 2}, Catch: 1}, short(2, 2, 2)}, true, api.Bar{Parts: [][]int{{1}, {2}}}},
	} {
		bar, is, e := piece.Why(x.l)
		wantErr(t, "Why", e, api.OK)
		if is != x.is {
			t.Error("Why", x.l, is)
		}
		want(t, "Why: words", bar.Words, x.bar.Words)
		want(t, "Why: parts", bar.Parts, x.bar.Parts)
	}
}

// TestText is of P1.9.
func TestText(t *testing.T) {
	l := []api.Piece{{ID: 4, Words: []int{2, 9}, Catch: 1}, {ID: 2, Words: []int{1, 1, 5}, Catch: 2}}
	for _, x := range []struct{ order, text []int }{{[]int{4, 2}, []int{2, 9, 1, 1, 5}}, {[]int{2, 4}, []int{1, 1, 5, 2, 9}}} {
		text, e := piece.Text(l, x.order)
		wantErr(t, "Text", e, api.OK)
		want(t, "Text", text, x.text)
	}
	for _, order := range [][]int{nil, {4}, {4, 4}, {4, 2, 4}, {4, 3}} {
		text, e := piece.Text(l, order)
		check(t, "Text", e, api.ErrArg, len(text) > 0)
	}
	text, e := piece.Text(nil, nil)
	check(t, "Text of no pieces", e, api.ErrArg, len(text) > 0)
}

// TestCut is of P1.9.
func TestCut(t *testing.T) {
	l, e := piece.Cut([]int{5, 6, 7, 7, 1, 5}, []int{3, 6})
	wantErr(t, "Cut", e, api.OK)
	want(t, "Cut", l, []api.Piece{{ID: 1, Words: []int{5, 6, 7}, Catch: 7}, {ID: 2, Words: []int{7, 1, 5}, Catch: 5}})
	l, e = piece.Cut([]int{3, 8, 9}, []int{3})
	wantErr(t, "Cut", e, api.OK)
	want(t, "Cut", l, []api.Piece{{ID: 1, Words: []int{3, 8, 9}, Catch: 3}})
	l, e = piece.Cut([]int{3, 8, 9}, []int{1, 2, 3})
	wantErr(t, "Cut", e, api.OK)
	want(t, "Cut", l, chain(3, 8, 8, 9, 9, 3))
}

// TestCutErrors is of P1.9.
func TestCutErrors(t *testing.T) {
	every := func(n, by int) []int {
		var ends []int
		for end := by; end <= n; end += by {
			ends = append(ends, end)
		}
		return ends
	}
	most := api.MaxPieces * api.MaxWords
	wrong := words(6, 3)
	wrong[5] = 0
	for _, x := range []struct {
		what string
		text []int
		ends []int
		e    api.Errno
	}{
		{"most words", words(most, 1), every(most, api.MaxWords), api.OK},
		{"too many words", words(most+1, 1), []int{most + 1}, api.ErrLimit},
		{"too many wrong words", words(most+1, 0), nil, api.ErrLimit},
		{"most ends", words(api.MaxPieces, 1), every(api.MaxPieces, 1), api.OK},
		{"too many ends", words(api.MaxPieces+1, 1), every(api.MaxPieces+1, 1), api.ErrLimit},
		{"too many wrong ends", words(2, 0), make([]int, api.MaxPieces+1), api.ErrLimit},
		{"nothing", nil, nil, api.ErrArg},
		{"no ends", words(3, 1), nil, api.ErrArg},
		{"no words", nil, []int{1}, api.ErrArg},
		{"no words, end 0", nil, []int{0}, api.ErrArg},
		{"greatest word", words(2, api.MaxWord), []int{2}, api.OK},
		{"word too great", words(2, api.MaxWord+1), []int{2}, api.ErrArg},
		{"last word 0", wrong, []int{3, 6}, api.ErrArg},
		{"word -1", words(2, -1), []int{2}, api.ErrArg},
		{"end 0", words(6, 1), []int{0, 6}, api.ErrArg},
		{"end -1", words(6, 1), []int{-1, 6}, api.ErrArg},
		{"end twice", words(6, 1), []int{3, 3, 6}, api.ErrArg},
		{"last end twice", words(6, 1), []int{3, 6, 6}, api.ErrArg},
		{"ends that fall", words(6, 1), []int{4, 3, 6}, api.ErrArg},
		{"last end too small", words(6, 1), []int{3, 5}, api.ErrArg},
		{"last end too great", words(6, 1), []int{3, 7}, api.ErrArg},
		{"end too great", words(6, 1), []int{7, 6}, api.ErrArg},
		{"longest piece", words(api.MaxWords+1, 1), []int{api.MaxWords, api.MaxWords + 1}, api.OK},
		{"longest last piece", words(api.MaxWords+1, 1), []int{1, api.MaxWords + 1}, api.OK},
		{"piece too long", words(api.MaxWords+2, 1), []int{api.MaxWords + 1, api.MaxWords + 2}, api.ErrArg},
		{"last piece too long", words(api.MaxWords+2, 1), []int{1, api.MaxWords + 2}, api.ErrArg},
	} {
		l, e := piece.Cut(x.text, x.ends)
		if wantErr(t, x.what, e, x.e); e == api.OK && len(l) != len(x.ends) || e != api.OK && len(l) > 0 {
			t.Error(x.what, l)
		}
		if e == api.OK {
			wantErr(t, x.what, piece.Check(l), api.OK)
		}
	}
}
