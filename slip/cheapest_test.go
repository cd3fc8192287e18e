package slip_test

import (
	"math/rand"
	"slices"
	"testing"

	"pecia/api"
	"pecia/slip"
)

// proves is whether a table proves a cost, by the words of the document.
func proves(c api.Copying, table [][]int, cost int) bool {
	n, m := len(c.Text), len(c.Copy)
	if len(table) != n+1 {
		return false
	}
	for _, row := range table {
		if len(row) != m+1 {
			return false
		}
		for _, number := range row {
			if number < 0 || number > 1<<40 {
				return false
			}
		}
	}
	for i := range n + 1 {
		for j := range m + 1 {
			if i < n && j < m && c.Text[i] == c.Copy[j] && table[i+1][j+1] > table[i][j] {
				return false
			}
			for _, s := range allSlips(i, j) {
				to, writes, more, is := effect(c, s)
				if is && j+len(writes) <= m && slices.Equal(writes, c.Copy[j:j+len(writes)]) && table[to][j+len(writes)] > table[i][j]+more {
					return false
				}
			}
		}
	}
	return table[0][0] == 0 && table[n][m] == cost
}

func cloneTable(table [][]int) [][]int {
	t := slices.Clone(table)
	for i := range t {
		t[i] = slices.Clone(t[i])
	}
	return t
}

// bestOf is Best of a right copying.
func bestOf(t *testing.T, c api.Copying) api.Account {
	t.Helper()
	a, e := slip.Best(c)
	wantErr(t, "Best", e, api.OK)
	return a
}

// TestExamples is of P2.3 to P2.7 and P2.18, by the examples of the chapter.
func TestExamples(t *testing.T) {
	c := example()
	a := bestOf(t, c)
	want(t, "Best", a.Slips, exampleList())
	want(t, "Best", a.Cost, 8)
	wantErr(t, "CheckBest", slip.CheckBest(c, a), api.OK)
	want(t, "Least", leastOf(t, c), 8)
	n, e := slip.Count(c)
	wantErr(t, "Count", e, api.OK)
	want(t, "Count", n, 1)
	l, e := slip.Surely(c)
	wantErr(t, "Surely", e, api.OK)
	want(t, "Surely", l, exampleList())
	l, e = slip.Possibly(c)
	wantErr(t, "Possibly", e, api.OK)
	want(t, "Possibly", l, exampleList())
	all, some, e := slip.Kept(c)
	wantErr(t, "Kept", e, api.OK)
	want(t, "Kept", all, []int{0, 1, 6})
	want(t, "Kept", some, []int{0, 1, 6})
	span, e := slip.Places(c, 4)
	wantErr(t, "Places", e, api.OK)
	want(t, "Places", span, api.Span{Lo: 2, Hi: 2})
	n, e = slip.Made(c, omit(2, 2))
	wantErr(t, "Made", e, api.OK)
	want(t, "Made", n, 9)
	n, e = slip.Missed(c, leap(2, 2, 3))
	wantErr(t, "Missed", e, api.OK)
	want(t, "Missed", n, 7)
	n, e = slip.Missed(c, mix(5, 2, 8))
	wantErr(t, "Missed", e, api.OK)
	want(t, "Missed", n, 7)
	n, e = slip.Second(c)
	wantErr(t, "Second", e, api.OK)
	want(t, "Second", n, 10)
}

// TestOtherExamples is of P2.3, P2.4 and P2.5, by the other copies of the examples.
func TestOtherExamples(t *testing.T) {
	c := example()
	c.Copy = []int{5, 7, 3, 11, 9, 7, 4, 6}
	want(t, "a gloss", bestOf(t, c).Slips, []api.Slip{gloss(3, 3, 0)})
	want(t, "a gloss", leastOf(t, c), 2)
	c.Copy = []int{5, 7, 3, 9, 7, 7, 4, 6}
	want(t, "a word twice", bestOf(t, c).Slips, []api.Slip{twice(5, 5, 1)})
	want(t, "a word twice", leastOf(t, c), 3)
	c = plain([]int{3, 4}, []int{9})
	want(t, "another word", leastOf(t, c), 13)
	n, e := slip.Count(c)
	wantErr(t, "Count", e, api.OK)
	want(t, "Count", n, 3)
	l, e := slip.Surely(c)
	wantErr(t, "Surely", e, api.OK)
	want(t, "Surely", l, []api.Slip{})
	l, e = slip.Possibly(c)
	wantErr(t, "Possibly", e, api.OK)
	want(t, "Possibly", l, []api.Slip{omit(0, 0), add(0, 0, 9), omit(0, 1), omit(1, 0), add(1, 0, 9), omit(1, 1), add(2, 0, 9)})
}

// TestNothing is of P2.3 to P2.7 and P2.18: there is no text, and no copy.
func TestNothing(t *testing.T) {
	c := plain(nil, nil)
	a := bestOf(t, c)
	want(t, "Best", a.Slips, []api.Slip{})
	want(t, "Best", a.Cost, 0)
	want(t, "Best", a.Table, [][]int{{0}})
	wantErr(t, "CheckBest", slip.CheckBest(c, a), api.OK)
	wantErr(t, "CheckBest of nothing", slip.CheckBest(c, api.Account{}), api.ErrProof)
	n, e := slip.Count(c)
	wantErr(t, "Count", e, api.OK)
	want(t, "Count", n, 1)
	l, e := slip.Surely(c)
	wantErr(t, "Surely", e, api.OK)
	want(t, "Surely", l, []api.Slip{})
	l, e = slip.Possibly(c)
	wantErr(t, "Possibly", e, api.OK)
	want(t, "Possibly", l, []api.Slip{})
	n, e = slip.Made(c, add(0, 0, 1))
	check(t, "Made", e, api.ErrNone, n != 0)
	n, e = slip.Missed(c, add(0, 0, 1))
	check(t, "Missed", e, api.OK, n != 0)
	span, e := slip.Places(c, 0)
	wantErr(t, "Places", e, api.OK)
	want(t, "Places", span, api.Span{})
	span, e = slip.Places(c, 1)
	check(t, "Places", e, api.ErrArg, span != api.Span{})
	all, some, e := slip.Kept(c)
	check(t, "Kept", e, api.OK, len(all)+len(some) > 0)
	n, e = slip.Second(c)
	check(t, "Second", e, api.ErrNone, n != 0)
}

// TestOneWord is of P2.3 to P2.7 and P2.18: there is just one word, so that just one list is left.
func TestOneWord(t *testing.T) {
	for _, x := range []struct {
		c    api.Copying
		only api.Slip
		cost int
	}{
		{plain([]int{3}, nil), omit(0, 0), 4},
		{plain(nil, []int{3}), add(0, 0, 3), 5},
	} {
		a := bestOf(t, x.c)
		want(t, "Best", a.Slips, []api.Slip{x.only})
		want(t, "Best", a.Cost, x.cost)
		n, e := slip.Missed(x.c, x.only)
		check(t, "Missed", e, api.ErrNone, n != 0)
		n, e = slip.Made(x.c, x.only)
		wantErr(t, "Made", e, api.OK)
		want(t, "Made", n, 0)
		n, e = slip.Second(x.c)
		check(t, "Second", e, api.ErrNone, n != 0)
		l, e := slip.Surely(x.c)
		wantErr(t, "Surely", e, api.OK)
		want(t, "Surely", l, []api.Slip{x.only})
	}
	c := plain([]int{3}, []int{3})
	want(t, "the same word", leastOf(t, c), 0)
	n, e := slip.Second(c)
	wantErr(t, "Second", e, api.OK)
	want(t, "Second", n, 7) // the word is left out, and then written twice, which is once
}

// TestLongest is of P2.3, P2.4 and P2.18: text and copy are as long, and slips as dear, as they can be.
func TestLongest(t *testing.T) {
	c := api.Copying{Text: words(api.MaxLong, api.MaxWord), Copy: words(api.MaxLong, 1)}
	c.Hand = api.Hand{Omit: api.MaxSlipCost, Leap: api.MaxSlipCost, Twice: api.MaxSlipCost, Gloss: api.MaxSlipCost, Add: api.MaxSlipCost}
	c.Text = upFrom(100, api.MaxLong)
	a := bestOf(t, c)
	want(t, "other words", a.Cost, 2*api.MaxLong*api.MaxSlipCost)
	want(t, "other words", len(a.Slips), 2*api.MaxLong)
	wantErr(t, "other words", slip.CheckBest(c, a), api.OK)
	n, e := slip.Second(c)
	check(t, "Second", e, api.ErrNone, n != 0)
	n, e = slip.Count(c)
	wantErr(t, "Count", e, api.OK)
	want(t, "Count", n, api.MaxLists)
	c.Text = words(api.MaxLong, 1)
	a = bestOf(t, c)
	want(t, "the same word", a.Cost, 0)
	wantErr(t, "the same word", slip.CheckBest(c, a), api.OK)
	n, e = slip.Second(c)
	wantErr(t, "Second", e, api.OK)
	want(t, "Second", n, 2*api.MaxSlipCost)
}

// doubled is a text that has some words twice where the copy has them once, and then further words once where the copy has them twice. There are two lists for each word, and a word between the first and the further ones, so that nothing else costs as little.
func doubled(first, further int) api.Copying {
	var c api.Copying
	c.Hand = api.Hand{Omit: 1, Leap: 2, Twice: 2, Gloss: 1, Add: 1}
	for w := range first {
		c.Text, c.Copy = append(c.Text, 1+w, 1+w), append(c.Copy, 1+w)
	}
	c.Text, c.Copy = append(c.Text, 99), append(c.Copy, 99)
	for w := range further {
		c.Text, c.Copy = append(c.Text, 101+w), append(c.Copy, 101+w, 101+w)
	}
	return c
}

// TestCount is of P2.4: lists are counted up to api.MaxLists.
func TestCount(t *testing.T) {
	three := doubled(14, 14)
	three.Text, three.Copy = append(three.Text, 98, 97, 97, 97), append(three.Copy, 98, 97, 97)
	for _, x := range []struct {
		what string
		c    api.Copying
		n    int
	}{
		{"the text", plain([]int{1, 2}, []int{1, 2}), 1},
		{"two lists", doubled(1, 0), 2},
		{"two other lists", doubled(0, 1), 2},
		{"half of the most", doubled(15, 14), api.MaxLists / 2},
		{"three quarters of the most", three, api.MaxLists / 4 * 3},
		{"the most", doubled(15, 15), api.MaxLists},
		{"more", doubled(16, 15), api.MaxLists},
		{"glosses alike", api.Copying{Hand: exampleHand(), Text: []int{5}, Glosses: manyGlosses(6), Copy: []int{1, 5}}, 6},
		{"all words left out, and others added", plain(upFrom(1, 4), upFrom(11, 4)), 70},
		{"by far too many", plain(upFrom(1, 48), upFrom(101, 48)), api.MaxLists},
	} {
		n, e := slip.Count(x.c)
		wantErr(t, x.what, e, api.OK)
		want(t, x.what, n, x.n)
	}
}

// TestCheckBest is of P2.3.
func TestCheckBest(t *testing.T) {
	c := example()
	change := func(change func(a *api.Account)) api.Account {
		a := bestOf(t, c)
		change(&a)
		return a
	}
	for _, x := range []struct {
		what string
		a    api.Account
		e    api.Errno
	}{
		{"best", change(func(a *api.Account) {}), api.OK},
		{"nothing", api.Account{}, api.ErrProof},
		{"no table", change(func(a *api.Account) { a.Table = nil }), api.ErrProof},
		{"no slips", change(func(a *api.Account) { a.Slips = nil }), api.ErrProof},
		{"cost too small", change(func(a *api.Account) { a.Cost-- }), api.ErrProof},
		{"cost too great", change(func(a *api.Account) { a.Cost++ }), api.ErrProof},
		{"cost and last number too small", change(func(a *api.Account) { a.Cost--; a.Table[7][5]-- }), api.ErrProof},
		{"last number too small", change(func(a *api.Account) { a.Table[7][5]-- }), api.ErrProof},
		{"first number not 0", change(func(a *api.Account) { a.Table[0][0]-- }), api.ErrProof},
		{"all numbers greater", change(func(a *api.Account) {
			for _, row := range a.Table {
				for j := range row {
					row[j]++
				}
			}
		}), api.ErrProof},
		{"a row less", change(func(a *api.Account) { a.Table = a.Table[:7] }), api.ErrProof},
		{"a row more", change(func(a *api.Account) { a.Table = append(a.Table, slices.Clone(a.Table[7])) }), api.ErrProof},
		{"a short row", change(func(a *api.Account) { a.Table[3] = a.Table[3][:5] }), api.ErrProof},
		{"a long row", change(func(a *api.Account) { a.Table[3] = append(a.Table[3], 9) }), api.ErrProof},
		{"an empty row", change(func(a *api.Account) { a.Table[3] = nil }), api.ErrProof},
		{"a number less than 0", change(func(a *api.Account) { a.Table[7][0] = -1 }), api.ErrProof},
		{"a number far too great", change(func(a *api.Account) { a.Table[7][0] = 1<<40 + 1 }), api.ErrProof},
		{"the greatest number of all", change(func(a *api.Account) { a.Table[0][4] = 1<<63 - 1 }), api.ErrProof},
		{"the least number of all", change(func(a *api.Account) { a.Table[7][0] = -1 << 63 }), api.ErrProof},
		{"a slip less", change(func(a *api.Account) { a.Slips = a.Slips[:2] }), api.ErrProof},
		{"too many slips", change(func(a *api.Account) { a.Slips = make([]api.Slip, api.MaxSlips+1) }), api.ErrProof},
		{"a dearer list", change(func(a *api.Account) { a.Slips[2] = add(6, 3, 6); a.Slips[2].In = 3 }), api.ErrProof},
		{"a dearer list with its cost", change(func(a *api.Account) { a.Slips[2], a.Cost = add(7, 4, 6), 10 }), api.ErrProof},
	} {
		wantErr(t, x.what, slip.CheckBest(c, x.a), x.e)
	}
	dearer := change(func(a *api.Account) { a.Slips[2] = add(7, 4, 6) })
	cost, is, e := slip.Explains(c, dearer.Slips)
	if e != api.OK || !is || cost != 10 {
		t.Error("the dearer list", cost, is, e)
	}
}

// TestCheckBestNumbers is of P2.3: the numbers of a table can be others than those that Best tells, within what the steps allow, and are not less than 0.
func TestCheckBestNumbers(t *testing.T) {
	c := plain([]int{3}, []int{3})
	for _, x := range []struct {
		table [][]int
		e     api.Errno
	}{
		{[][]int{{0, 5}, {4, 0}}, api.OK},
		{[][]int{{0, 0}, {0, 0}}, api.OK},
		{[][]int{{0, 3}, {2, 0}}, api.OK},
		{[][]int{{0, 6}, {4, 0}}, api.ErrProof},
		{[][]int{{0, 5}, {5, 0}}, api.ErrProof},
		{[][]int{{0, -1}, {4, 0}}, api.ErrProof},
		{[][]int{{0, 5}, {-1, 0}}, api.ErrProof},
		{[][]int{{0, 5}, {4, 1}}, api.ErrProof},
		{[][]int{{1, 5}, {4, 0}}, api.ErrProof},
		{[][]int{{0, 5}, {4, 0}, {}}, api.ErrProof},
	} {
		wantErr(t, "CheckBest", slip.CheckBest(c, api.Account{Table: x.table}), x.e)
	}
}

// TestCheckBestTryAll is of P2.3: of many tables just those that prove the cost are accepted.
func TestCheckBestTryAll(t *testing.T) {
	r := rand.New(rand.NewSource(23))
	seen := map[api.Errno]int{}
	someCopyings(100, 5, func(c api.Copying) {
		a := bestOf(t, c)
		if !proves(c, a.Table, a.Cost) {
			t.Error("the table proves nothing:", c, a)
		}
		for range 20 {
			b := api.Account{Slips: a.Slips, Cost: a.Cost, Table: cloneTable(a.Table)}
			for range 1 + r.Intn(3) {
				b.Table[r.Intn(len(c.Text)+1)][r.Intn(len(c.Copy)+1)] += r.Intn(7) - 4
			}
			should := api.ErrProof
			if proves(c, b.Table, b.Cost) {
				should = api.OK
			}
			seen[should]++
			if e := slip.CheckBest(c, b); e != should {
				t.Error("CheckBest", c, b, e)
			}
		}
	})
	if seen[api.OK] < 200 || seen[api.ErrProof] < 200 {
		t.Error("too few tables of a sort:", seen)
	}
}

// known is all that trying each list tells about a copying.
type known struct {
	least, count, second int // second is 0 if there is none
	with                 map[api.Slip]int
	sure, possible       []api.Slip
	keptAll, keptSome    []int
	places               []api.Span
}

func tryAll(c api.Copying, all []list) known {
	k := known{least: 1 << 40, with: map[api.Slip]int{}}
	for _, l := range all {
		k.least = min(k.least, l.cost)
		for _, s := range l.slips {
			if n, is := k.with[s]; !is || l.cost < n {
				k.with[s] = l.cost
			}
		}
	}
	slips, kept := map[api.Slip]int{}, map[int]int{}
	for i := range len(c.Text) + 1 {
		k.places = append(k.places, api.Span{Lo: len(c.Copy), Hi: 0})
		for _, l := range all {
			if l.cost == k.least {
				j := comesTo(l, i)
				k.places[i] = api.Span{Lo: min(k.places[i].Lo, j), Hi: max(k.places[i].Hi, j)}
			}
		}
	}
	for _, l := range all {
		if l.cost > k.least && (k.second == 0 || l.cost < k.second) {
			k.second = l.cost
		}
		if l.cost == k.least {
			k.count++
			for _, s := range l.slips {
				slips[s]++
			}
			for _, i := range l.kept {
				kept[i]++
			}
		}
	}
	for s, n := range slips {
		k.possible = append(k.possible, s)
		if n == k.count {
			k.sure = append(k.sure, s)
		}
	}
	slices.SortFunc(k.possible, compareSlips)
	slices.SortFunc(k.sure, compareSlips)
	for i := range c.Text {
		if kept[i] == k.count {
			k.keptAll = append(k.keptAll, i)
		}
		if kept[i] > 0 {
			k.keptSome = append(k.keptSome, i)
		}
	}
	return k
}

// comesTo is the least j of the places on a list whose i is not less than a number.
func comesTo(l list, i int) int {
	least := 1 << 40
	for _, p := range l.places {
		if p[0] >= i {
			least = min(least, p[1])
		}
	}
	return least
}

// leastWithout is what a list costs at least that does not have a slip; false if all do. The lists stand by their costs.
func leastWithout(all []list, s api.Slip) (int, bool) {
	for _, l := range all {
		if !slices.Contains(l.slips, s) {
			return l.cost, true
		}
	}
	return 0, false
}

// TestTryAll is of P2.3 to P2.7 and P2.18, and of P2.11, P2.12, P2.16 and P2.20: what is told is so in all lists that explain a copying.
func TestTryAll(t *testing.T) {
	seen := map[string]int{}
	someCopyings(300, 4, func(c api.Copying) {
		all := allLists(c)
		k := tryAll(c, all)
		seen["lists"] += len(all)
		seen["several"] += min(1, k.count-1)
		seen["sure"] += len(k.sure)
		seen["kept in some"] += len(k.keptSome) - len(k.keptAll)
		checkCheapest(t, c, k)
		checkLists(t, c, k, all)
		checkSlips(t, c, k, all)
		if k.second == 0 {
			seen["no second"]++
			for s := range k.with {
				if k.count == 1 && !slices.Contains(k.sure, s) {
					t.Error("P2.20: no second, but a slip that is not sure:", c, s)
				}
			}
		}
	})
	for _, what := range []string{"lists", "several", "sure", "kept in some", "no second"} {
		if seen[what] < 50 {
			t.Error("too few:", what, seen)
		}
	}
}

// checkCheapest compares all that is told about the cheapest lists with what is known.
func checkCheapest(t *testing.T, c api.Copying, k known) {
	t.Helper()
	want(t, "Least", leastOf(t, c), k.least)
	n, e := slip.Count(c)
	wantErr(t, "Count", e, api.OK)
	want(t, "Count", n, k.count)
	l, e := slip.Surely(c)
	wantErr(t, "Surely", e, api.OK)
	want(t, "Surely", l, k.sure)
	l, e = slip.Possibly(c)
	wantErr(t, "Possibly", e, api.OK)
	want(t, "Possibly", l, k.possible)
	n, e = slip.Second(c)
	if k.second == 0 {
		check(t, "Second", e, api.ErrNone, n != 0)
	} else {
		wantErr(t, "Second", e, api.OK)
		want(t, "Second", n, k.second)
	}
	for at, should := range k.places {
		span, e := slip.Places(c, at)
		wantErr(t, "Places", e, api.OK)
		want(t, "Places", span, should)
	}
	inAll, inSome, e := slip.Kept(c)
	wantErr(t, "Kept", e, api.OK)
	want(t, "Kept", inAll, k.keptAll)
	want(t, "Kept", inSome, k.keptSome)
}

// checkLists checks that all lists explain the copying, and that just the cheapest ones are accepted as such.
func checkLists(t *testing.T, c api.Copying, k known, all []list) {
	t.Helper()
	a := bestOf(t, c)
	want(t, "Best", a.Cost, k.least)
	wantErr(t, "CheckBest of Best", slip.CheckBest(c, a), api.OK)
	for i, l := range all {
		if i > 200 {
			break
		}
		cost, is, e := slip.Explains(c, l.slips)
		if e != api.OK || !is || cost != l.cost {
			t.Error("Explains", c, l, cost, is, e)
		}
		should := api.ErrProof
		if l.cost == k.least {
			should = api.OK
		}
		wantErr(t, "CheckBest of any list", slip.CheckBest(c, api.Account{Slips: l.slips, Cost: l.cost, Table: a.Table}), should)
	}
}

// checkSlips compares Made and Missed of slips that a list has, and of others, with what is known.
func checkSlips(t *testing.T, c api.Copying, k known, all []list) {
	t.Helper()
	tried := []api.Slip{{}, {At: 1, In: 1}, {Kind: api.SlOmit, At: len(c.Text)}, add(0, len(c.Copy), 1), add(-1, 0, 1), {Kind: 7}}
	for s := range k.with {
		tried = append(tried, s)
		s.In++
		tried = append(tried, s)
		s.In, s.Word = s.In-1, s.Word+1
		tried = append(tried, s)
	}
	slices.SortFunc(tried, compareSlips)
	for _, s := range tried {
		made, e := slip.Made(c, s)
		cost, has := k.with[s]
		if has {
			wantErr(t, "Made", e, api.OK)
			want(t, "Made", made, cost-k.least)
		} else {
			check(t, "Made", e, api.ErrNone, made != 0)
		}
		missed, f := slip.Missed(c, s)
		cost, is := leastWithout(all, s)
		if is {
			wantErr(t, "Missed", f, api.OK)
			want(t, "Missed", missed, cost-k.least)
		} else {
			check(t, "Missed", f, api.ErrNone, missed != 0)
		}
		if slices.Contains(k.possible, s) != (e == api.OK && made == 0) || slices.Contains(k.sure, s) != (f == api.ErrNone || missed > 0) {
			t.Error("P2.12:", c, s, made, e, missed, f)
		}
	}
}

// TestPlacesErrors is of P2.7.
func TestPlacesErrors(t *testing.T) {
	for _, at := range []int{-1, 8, 1 << 62, -1 << 63} {
		span, e := slip.Places(example(), at)
		check(t, "Places", e, api.ErrArg, span != api.Span{})
	}
	for at, j := range []int{0, 1, 2, 2, 2, 2, 3, 4} {
		span, e := slip.Places(example(), at)
		wantErr(t, "Places", e, api.OK)
		want(t, "Places", span, api.Span{Lo: j, Hi: j})
	}
	span, e := slip.Places(plain([]int{3, 4}, []int{9}), 1)
	wantErr(t, "Places of several lists", e, api.OK)
	want(t, "Places of several lists", span, api.Span{Lo: 0, Hi: 1})
	span, e = slip.Places(plain([]int{3, 4}, []int{9}), 0)
	wantErr(t, "Places at the beginning", e, api.OK)
	want(t, "Places at the beginning", span, api.Span{})
}

// TestKept is of P2.7: a word can be kept in all lists, though at several places of the copy.
func TestKept(t *testing.T) {
	c := api.Copying{Hand: api.Hand{Omit: 1, Leap: 1, Twice: 9, Gloss: 9, Add: 2}, Text: []int{1, 2, 3}, Copy: []int{2, 4, 2}}
	all, some, e := slip.Kept(c)
	wantErr(t, "Kept", e, api.OK)
	want(t, "Kept", all, []int{1})
	want(t, "Kept", some, []int{1})
	l, e := slip.Possibly(c)
	if e != api.OK || !slices.Contains(l, add(2, 1, 4)) || !slices.Contains(l, add(0, 0, 2)) {
		t.Error("the word is kept at one place only:", l, e)
	}
}
