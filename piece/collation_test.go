package piece_test

import (
	"math/rand"
	"regexp"
	"strings"
	"testing"

	"pecia/api"
	"pecia/piece"
)

func quire(sign string, leaves int, gone ...int) api.Quire {
	return api.Quire{Sign: sign, Leaves: leaves, Gone: gone}
}

// book is the quires of the chapter's examples.
func book() []api.Quire { return []api.Quire{quire("A", 8), quire("B", 6, 3)} }

// manyQuires is quires with different signs, up to 78 ones.
func manyQuires(n int) []api.Quire {
	var l []api.Quire
	for i := range n {
		l = append(l, quire(strings.Repeat(string(rune('A'+i%26)), i/26+1), 2))
	}
	return l
}

// upTo is the numbers from 1 to n.
func upTo(n int) []int {
	l := make([]int, n)
	for i := range l {
		l[i] = i + 1
	}
	return l
}

func wantQuires(t *testing.T, what string, got, should []api.Quire) {
	t.Helper()
	if len(got) != len(should) {
		t.Error(what, got)
		return
	}
	for i, q := range got {
		want(t, what, q.Sign, should[i].Sign)
		want(t, what, q.Leaves, should[i].Leaves)
		want(t, what, q.Gone, should[i].Gone)
	}
}

// TestPrint is of P1.10.
func TestPrint(t *testing.T) {
	for _, x := range []struct {
		text string
		l    []api.Quire
	}{
		{"", nil},
		{"A8 B6-3", book()},
		{"A2", []api.Quire{quire("A", 2)}},
		{"ZZZ24-1-9-10-24", []api.Quire{quire("ZZZ", 24, 1, 9, 10, 24)}},
		{"BB4-1-2-3-4 B2 A2-2", []api.Quire{quire("BB", 4, 1, 2, 3, 4), quire("B", 2), quire("A", 2, 2)}},
	} {
		text, e := piece.Print(x.l)
		wantErr(t, x.text, e, api.OK)
		want(t, x.text, text, x.text)
		l, e, at := piece.Parse(x.text)
		if e != api.OK || at != 0 {
			t.Error("Parse", x.text, e, at)
		}
		wantQuires(t, x.text, l, x.l)
	}
}

// wrongQuires is quires with their error, that of Print.
func wrongQuires() map[string]struct {
	l []api.Quire
	e api.Errno
} {
	with := func(e api.Errno, l ...api.Quire) struct {
		l []api.Quire
		e api.Errno
	} {
		return struct {
			l []api.Quire
			e api.Errno
		}{append(book(), l...), e}
	}
	return map[string]struct {
		l []api.Quire
		e api.Errno
	}{
		"no sign":               with(api.ErrArg, quire("", 4)),
		"sign too long":         with(api.ErrArg, quire("CCCC", 4)),
		"small letter":          with(api.ErrArg, quire("c", 4)),
		"unlike letters":        with(api.ErrArg, quire("CD", 4)),
		"unlike last letter":    with(api.ErrArg, quire("CCD", 4)),
		"digit":                 with(api.ErrArg, quire("1", 4)),
		"byte ahead of A":       with(api.ErrArg, quire("@", 4)),
		"byte behind Z":         with(api.ErrArg, quire("[", 4)),
		"letter of two bytes":   with(api.ErrArg, quire("\u00c4", 4)),
		"byte that is none":     with(api.ErrArg, quire("\xc4", 4)),
		"no leaves":             with(api.ErrArg, quire("C", 0)),
		"leaves less than 0":    with(api.ErrArg, quire("C", -2)),
		"odd leaves":            with(api.ErrArg, quire("C", 7)),
		"one leaf":              with(api.ErrArg, quire("C", 1)),
		"too many leaves":       with(api.ErrArg, quire("C", 26)),
		"leaf 0 gone":           with(api.ErrArg, quire("C", 4, 0)),
		"leaf -1 gone":          with(api.ErrArg, quire("C", 4, -1)),
		"leaf too great gone":   with(api.ErrArg, quire("C", 4, 5)),
		"leaf twice gone":       with(api.ErrArg, quire("C", 4, 2, 2)),
		"leaves gone that fall": with(api.ErrArg, quire("C", 4, 3, 2)),
		"sign twice":            with(api.ErrTwice, quire("C", 4), quire("A", 4)),
		"sign twice and odd":    with(api.ErrArg, quire("B", 5)),
		"twice, then wrong":     with(api.ErrTwice, quire("B", 4), quire("C", 5)),
		"wrong, then twice":     with(api.ErrArg, quire("C", 5), quire("B", 4)),
		"too many":              {manyQuires(api.MaxQuires + 1), api.ErrLimit},
		"too many wrong":        {make([]api.Quire, api.MaxQuires+1), api.ErrLimit},
	}
}

// TestQuireErrors is of P1.10 and P1.11: all functions with quires return the error of Print first.
func TestQuireErrors(t *testing.T) {
	for what, x := range wrongQuires() {
		text, e := piece.Print(x.l)
		check(t, "Print: "+what, e, x.e, text != "")
		f, e := piece.LeafOf(x.l, -1)
		check(t, "LeafOf: "+what, e, x.e, f != api.Leaf{})
		n, e := piece.NumberOf(x.l, api.Leaf{Quire: -1})
		check(t, "NumberOf: "+what, e, x.e, n != 0)
		f, is, e := piece.Partner(x.l, api.Leaf{Quire: -1})
		check(t, "Partner: "+what, e, x.e, is || f != api.Leaf{})
	}
	most := manyQuires(api.MaxQuires)
	most[39] = quire("ZZZ", 24, upTo(24)...)
	text, e := piece.Print(most)
	wantErr(t, "most quires", e, api.OK)
	l, e, at := piece.Parse(text)
	if e != api.OK || at != 0 {
		t.Error("most quires", e, at)
	}
	wantQuires(t, "most quires", l, most)
}

// TestParseErrors is of P1.10.
func TestParseErrors(t *testing.T) {
	long := "A8" + strings.Repeat("-1", (api.MaxCollate-2)/2)
	var many []string
	for range api.MaxQuires + 1 {
		many = append(many, "A8")
	}
	for _, x := range []struct {
		text string
		e    api.Errno
		at   int
	}{
		{"A", api.ErrForm, 1},
		{"AAA", api.ErrForm, 3},
		{"AAAA8", api.ErrForm, 3},
		{"8", api.ErrForm, 0},
		{" ", api.ErrForm, 0},
		{" A8", api.ErrForm, 0},
		{"-", api.ErrForm, 0},
		{"a8", api.ErrForm, 0},
		{"A 8", api.ErrForm, 1},
		{"A0", api.ErrForm, 1},
		{"A08", api.ErrForm, 1},
		{"A-8", api.ErrForm, 1},
		{"A128", api.ErrForm, 3},
		{"A8B6", api.ErrForm, 2},
		{"A8 ", api.ErrForm, 3},
		{"A8  B6", api.ErrForm, 3},
		{"A8 B", api.ErrForm, 4},
		{"A8-", api.ErrForm, 3},
		{"A8--3", api.ErrForm, 3},
		{"A8-0", api.ErrForm, 3},
		{"A8-03", api.ErrForm, 3},
		{"A8- 3", api.ErrForm, 3},
		{"A8-123", api.ErrForm, 5},
		{"A8-B", api.ErrForm, 3},
		{"A8-3B", api.ErrForm, 4},
		{"A8\tB6", api.ErrForm, 2},
		{"A8\n", api.ErrForm, 2},
		{"A8\u00a0B6", api.ErrForm, 2},
		{"A\u00c48", api.ErrForm, 1},
		{"A\u0668", api.ErrForm, 1}, // a digit, but not of ours
		{"A8 \xff", api.ErrForm, 3},
		{"\x00", api.ErrForm, 0},
		{"A8 A6 x", api.ErrForm, 6}, // the form comes before what is said in it
		{"AB8", api.ErrArg, 0},
		{"ABC99", api.ErrArg, 0},
		{"A7", api.ErrArg, 0},
		{"A26", api.ErrArg, 0},
		{"A10-11", api.ErrArg, 0},
		{"A8-3-3", api.ErrArg, 0},
		{"A8-3-2", api.ErrArg, 0},
		{"A8 A6", api.ErrTwice, 0},
		{"A8 A7", api.ErrArg, 0},
		{"A8 A6 B7", api.ErrTwice, 0},
		{strings.Join(many, " "), api.ErrLimit, 0},
		{long, api.ErrArg, 0},
		{long + "-", api.ErrLimit, 0},
		{strings.Repeat("x", api.MaxCollate), api.ErrForm, 0},
		{strings.Repeat("x", api.MaxCollate+1), api.ErrLimit, 0},
	} {
		l, e, at := piece.Parse(x.text)
		if e != x.e || at != x.at || len(l) > 0 {
			t.Errorf("Parse of %.20q: %v, %d, %d, want %d, %d", x.text, l, e, at, x.e, x.at)
		}
	}
}

// TestParseForms is of P1.10: for many texts, a text is wrong at the byte by which it is no more the beginning of a right one.
func TestParseForms(t *testing.T) {
	const right = `[A-Z]{1,3}[1-9][0-9]?(-[1-9][0-9]?)*`
	whole := regexp.MustCompile(`\A(|` + right + `( ` + right + `)*)\z`)
	beginning := regexp.MustCompile(`\A(` + right + ` )*([A-Z]{0,3}|` + right + `-?)\z`)
	r := rand.New(rand.NewSource(1))
	const bytes = "AAABCZ124680--- 1 2 "
	seen := map[api.Errno]int{}
	for range 20000 {
		var b strings.Builder
		for range r.Intn(9) {
			b.WriteByte(bytes[r.Intn(len(bytes))])
		}
		text := b.String()
		should := -1
		for i := range len(text) + 1 {
			if i < len(text) && !beginning.MatchString(text[:i+1]) || i == len(text) && !whole.MatchString(text) {
				should = i
				break
			}
		}
		l, e, at := piece.Parse(text)
		seen[e]++
		switch {
		case should >= 0:
			if e != api.ErrForm || at != should || len(l) > 0 {
				t.Errorf("Parse of %q: %v, %d, %d", text, l, e, at)
			}
		case e == api.ErrForm || at != 0:
			t.Errorf("Parse of %q: %v, %d, %d", text, l, e, at)
		case e == api.OK:
			if again, f := piece.Print(l); f != api.OK || again != text {
				t.Errorf("P1.17: Print of Parse of %q: %q, %d", text, again, f)
			}
		}
	}
	if seen[api.OK] < 100 || seen[api.ErrArg] < 100 || seen[api.ErrForm] < 100 {
		t.Error("too few texts of a sort:", seen)
	}
}

// TestLeaves is of P1.11.
func TestLeaves(t *testing.T) {
	l := []api.Quire{quire("A", 4, 1, 4), quire("C", 2, 1, 2), quire("B", 6, 3)}
	leaves := []api.Leaf{{Quire: 0, Number: 2}, {Quire: 0, Number: 3}, {Quire: 2, Number: 1}, {Quire: 2, Number: 2}, {Quire: 2, Number: 4}, {Quire: 2, Number: 5}, {Quire: 2, Number: 6}}
	partners := []int{3, 2, 6, 5, 0, 2, 1}
	for i, f := range leaves {
		got, e := piece.LeafOf(l, i+1)
		wantErr(t, "LeafOf", e, api.OK)
		want(t, "LeafOf", got, f)
		n, e := piece.NumberOf(l, f)
		wantErr(t, "NumberOf", e, api.OK)
		want(t, "NumberOf", n, i+1)
		p, is, e := piece.Partner(l, f)
		wantErr(t, "Partner", e, api.OK)
		want(t, "Partner", is, partners[i] > 0)
		if is {
			want(t, "Partner", p, api.Leaf{Quire: f.Quire, Number: partners[i]})
		} else {
			want(t, "Partner", p, api.Leaf{})
		}
	}
	for _, n := range []int{0, -1, len(leaves) + 1, 1 << 62, -1 << 63} {
		f, e := piece.LeafOf(l, n)
		check(t, "LeafOf", e, api.ErrNone, f != api.Leaf{})
	}
	for _, f := range []api.Leaf{{}, {Quire: 0, Number: 1}, {Quire: 0, Number: 5}, {Quire: 0, Number: -1}, {Quire: 1, Number: 1}, {Quire: 2, Number: 0}, {Quire: 2, Number: 3}, {Quire: 2, Number: 7}, {Quire: 3, Number: 1}, {Quire: -1, Number: 1}, {Quire: 1 << 62, Number: 2}} {
		n, e := piece.NumberOf(l, f)
		check(t, "NumberOf", e, api.ErrArg, n != 0)
		p, is, e := piece.Partner(l, f)
		check(t, "Partner", e, api.ErrArg, is || p != api.Leaf{})
	}
	f, e := piece.LeafOf(nil, 1)
	check(t, "LeafOf no book", e, api.ErrNone, f != api.Leaf{})
}

// TestExampleBook is of P1.11.
func TestExampleBook(t *testing.T) {
	f, e := piece.LeafOf(book(), 11)
	wantErr(t, "LeafOf", e, api.OK)
	want(t, "LeafOf", f, api.Leaf{Quire: 1, Number: 4})
	n, e := piece.NumberOf(book(), f)
	wantErr(t, "NumberOf", e, api.OK)
	want(t, "NumberOf", n, 11)
	p, is, e := piece.Partner(book(), f)
	check(t, "Partner", e, api.OK, is || p != api.Leaf{})
	p, is, e = piece.Partner(book(), api.Leaf{Quire: 1, Number: 1})
	wantErr(t, "Partner", e, api.OK)
	want(t, "Partner", is, true)
	want(t, "Partner", p, api.Leaf{Quire: 1, Number: 6})
}
