package slip_test

import (
	"math/rand"
	"slices"
	"testing"

	"pecia/api"
	"pecia/slip"
)

// TestMend is of P2.8.
func TestMend(t *testing.T) {
	for _, x := range []struct {
		k    int
		copy []int
		l    []api.Slip
	}{
		{0, []int{5, 7, 3, 9, 7, 8, 6, 6}, []api.Slip{mix(5, 5, 8), twice(7, 7, 1)}},
		{1, []int{5, 7, 4, 6, 6}, []api.Slip{leap(2, 2, 3), twice(7, 4, 1)}},
		{2, []int{5, 7, 8, 6}, []api.Slip{leap(2, 2, 3), mix(5, 2, 8)}},
	} {
		c, l, e := slip.Mend(example(), exampleList(), x.k)
		wantErr(t, "Mend", e, api.OK)
		should := example()
		should.Copy = x.copy
		wantCopying(t, "Mend", c, should)
		want(t, "Mend", l, x.l)
	}
	c := plain([]int{1, 2}, []int{1, 1, 2, 7, 2})
	list := []api.Slip{twice(1, 1, 1), add(2, 3, 7), twice(2, 4, 1)}
	mended, l, e := slip.Mend(c, list, 0)
	wantErr(t, "Mend of the first one of several", e, api.OK)
	want(t, "Mend of the first one of several", l, []api.Slip{add(2, 2, 7), twice(2, 3, 1)})
	want(t, "Mend of the first one of several", mended.Copy, []int{1, 2, 7, 2})
	mended, l, e = slip.Mend(plain([]int{4}, nil), []api.Slip{omit(0, 0)}, 0)
	wantErr(t, "Mend of the only one", e, api.OK)
	want(t, "Mend of the only one", l, []api.Slip{})
	want(t, "Mend of the only one", mended.Copy, []int{4})
	mended, _, e = slip.Mend(plain(nil, []int{4}), []api.Slip{add(0, 0, 4)}, 0)
	wantErr(t, "Mend to nothing", e, api.OK)
	want(t, "Mend to nothing", mended.Copy, []int{})
}

// TestMendErrors is of P2.8.
func TestMendErrors(t *testing.T) {
	full := plain(upFrom(1, api.MaxLong), append([]int{1, 1}, upFrom(3, api.MaxLong-2)...))
	fullList := []api.Slip{twice(1, 1, 1), omit(1, 2)}
	for _, x := range []struct {
		what string
		c    api.Copying
		l    []api.Slip
		k    int
		e    api.Errno
	}{
		{"no slips", plain([]int{1}, []int{1}), nil, 0, api.ErrArg},
		{"index -1", example(), exampleList(), -1, api.ErrArg},
		{"index too great", example(), exampleList(), 3, api.ErrArg},
		{"greatest index of all", example(), exampleList(), 1<<63 - 1, api.ErrArg},
		{"a list that does not explain it", example(), exampleList()[:2], 0, api.ErrArg},
		{"a list that cannot be written", example(), []api.Slip{{}}, 0, api.ErrArg},
		{"too many slips", example(), make([]api.Slip, api.MaxSlips+1), 0, api.ErrArg},
		{"a copy as long as can be", plain(upFrom(1, api.MaxLong), upFrom(2, api.MaxLong-1)), []api.Slip{omit(0, 0)}, 0, api.OK},
		{"a copy that gets shorter", full, fullList, 0, api.OK},
		{"a copy too long", full, fullList, 1, api.ErrLimit},
		{"a copy too long, but no index", full, fullList, 2, api.ErrArg},
	} {
		c, l, e := slip.Mend(x.c, x.l, x.k)
		if wantErr(t, x.what, e, x.e); e != api.OK && (len(l) > 0 || !zeroCopying(c)) {
			t.Error(x.what, c, l)
		}
	}
}

// TestShared is of P2.9.
func TestShared(t *testing.T) {
	many := make([]api.Slip, api.MaxSlips)
	for _, x := range []struct {
		what         string
		a, b, shared []api.Slip
		e            api.Errno
	}{
		{"none", nil, nil, nil, api.OK},
		{"none in the second one", exampleList(), nil, nil, api.OK},
		{"none in the first one", nil, exampleList(), nil, api.OK},
		{"all", exampleList(), exampleList(), []api.Slip{leap(2, 0, 3), mix(5, 0, 8), twice(7, 0, 1)}, api.OK},
		{"with another In", []api.Slip{omit(3, 1), omit(4, 1)}, []api.Slip{omit(3, 2), omit(5, 1)}, []api.Slip{omit(3, 0)}, api.OK},
		{"each once", []api.Slip{add(2, 2, 1), add(2, 3, 1), add(2, 4, 2)}, []api.Slip{add(2, 2, 2), add(2, 5, 1), add(2, 6, 1)}, []api.Slip{add(2, 0, 1), add(2, 0, 2)}, api.OK},
		{"another kind", []api.Slip{leap(2, 2, 1)}, []api.Slip{twice(2, 2, 1)}, nil, api.OK},
		{"another At", []api.Slip{leap(2, 2, 1)}, []api.Slip{leap(3, 2, 1)}, nil, api.OK},
		{"another Long", []api.Slip{leap(2, 2, 1)}, []api.Slip{leap(2, 2, 2)}, nil, api.OK},
		{"another Word", []api.Slip{add(2, 2, 1)}, []api.Slip{add(2, 2, 2)}, nil, api.OK},
		{"in the order of fields", []api.Slip{add(3, 1, 2), add(3, 2, 1), omit(3, 3), omit(2, 9), leap(2, 8, 9), leap(2, 8, 1), add(-1, 7, 7)}, []api.Slip{add(-1, 0, 7), leap(2, 0, 1), leap(2, 0, 9), omit(2, 0), omit(3, 0), add(3, 0, 1), add(3, 0, 2)}, []api.Slip{add(-1, 0, 7), omit(2, 0), leap(2, 0, 1), leap(2, 0, 9), omit(3, 0), add(3, 0, 1), add(3, 0, 2)}, api.OK},
		{"slips that are none", []api.Slip{{Kind: 99, At: -1 << 63, In: 5, Long: 1<<63 - 1, Word: -7}, {Kind: -1, At: 1<<63 - 1}}, []api.Slip{{Kind: -1, At: 1<<63 - 1, In: -3}, {Kind: 99, At: -1 << 63, Long: 1<<63 - 1, Word: -7}}, []api.Slip{{Kind: 99, At: -1 << 63, Long: 1<<63 - 1, Word: -7}, {Kind: -1, At: 1<<63 - 1}}, api.OK},
		{"most slips", many, many, []api.Slip{{}}, api.OK},
		{"too many in the first one", make([]api.Slip, api.MaxSlips+1), nil, nil, api.ErrLimit},
		{"too many in the second one", nil, make([]api.Slip, api.MaxSlips+1), nil, api.ErrLimit},
	} {
		l, e := slip.Shared(x.a, x.b)
		wantErr(t, x.what, e, x.e)
		want(t, x.what, l, x.shared)
	}
}

// TestDearer is of P2.9.
func TestDearer(t *testing.T) {
	two := changed(func(c *api.Copying) { c.Hand.Mixes = append(c.Hand.Mixes, api.Mix{From: 3, To: 9, Cost: 6}) })
	for _, x := range []struct {
		what       string
		kind, more int
		change     func(h *api.Hand)
	}{
		{"mix", api.SlMix, 3, func(h *api.Hand) { h.Mixes[0].Cost, h.Mixes[1].Cost = 5, 9 }},
		{"omit", api.SlOmit, 3, func(h *api.Hand) { h.Omit = 7 }},
		{"leap", api.SlLeap, 3, func(h *api.Hand) { h.Leap = 6 }},
		{"twice", api.SlTwice, 4, func(h *api.Hand) { h.Twice = 7 }},
		{"gloss", api.SlGloss, 3, func(h *api.Hand) { h.Gloss = 5 }},
		{"add", api.SlAdd, 3, func(h *api.Hand) { h.Add = 8 }},
		{"no more", api.SlAdd, 0, func(h *api.Hand) {}},
		{"up to the greatest cost", api.SlAdd, 95, func(h *api.Hand) { h.Add = api.MaxSlipCost }},
		{"mixes up to the greatest cost", api.SlMix, 94, func(h *api.Hand) { h.Mixes[0].Cost, h.Mixes[1].Cost = 96, api.MaxSlipCost }},
	} {
		c, e := slip.Dearer(two, x.kind, x.more)
		wantErr(t, x.what, e, api.OK)
		should := cloneCopying(two)
		x.change(&should.Hand)
		wantCopying(t, x.what, c, should)
	}
	none := plain([]int{1}, []int{1})
	none.Hand.Mixes = nil
	c, e := slip.Dearer(none, api.SlMix, api.MaxSlipCost)
	wantErr(t, "no mixes", e, api.OK)
	wantCopying(t, "no mixes", c, none)
	for _, x := range []struct {
		what       string
		kind, more int
		e          api.Errno
	}{
		{"kind 0", 0, 1, api.ErrArg},
		{"kind 7", 7, 1, api.ErrArg},
		{"kind -1", -1, 1, api.ErrArg},
		{"less", api.SlOmit, -1, api.ErrArg},
		{"too much more", api.SlOmit, api.MaxSlipCost + 1, api.ErrArg},
		{"the greatest number of all", api.SlOmit, 1<<63 - 1, api.ErrArg},
		{"too dear", api.SlOmit, 97, api.ErrLimit},
		{"too dear leaps", api.SlLeap, 98, api.ErrLimit},
		{"too dear twice", api.SlTwice, 98, api.ErrLimit},
		{"too dear glosses", api.SlGloss, 99, api.ErrLimit},
		{"too dear additions", api.SlAdd, 96, api.ErrLimit},
		{"one mix too dear", api.SlMix, 95, api.ErrLimit},
	} {
		c, e := slip.Dearer(two, x.kind, x.more)
		check(t, x.what, e, x.e, !zeroCopying(c))
	}
}

// TestNearest is of P2.19.
func TestNearest(t *testing.T) {
	c := example()
	for _, x := range []struct {
		what    string
		texts   [][]int
		indices []int
		cost    int
	}{
		{"example", [][]int{c.Text, {5, 7, 8, 6}, {5, 7, 4, 6}}, []int{1}, 3},
		{"several", [][]int{{5, 7, 8, 6}, c.Text, {5, 7, 8, 6}}, []int{0, 2}, 3},
		{"a better one later", [][]int{c.Text, {5, 7, 4, 6}, {5, 7, 8, 6}, {5, 7, 4, 6}, {5, 7, 8, 6}}, []int{2, 4}, 3},
		{"the copy itself", [][]int{nil, c.Copy, c.Text, c.Copy}, []int{1, 3}, 0},
		{"no words", [][]int{nil}, []int{0}, 25},
		{"most texts", slices.Repeat([][]int{nil}, api.MaxTexts), upFrom(0, api.MaxTexts), 25},
		{"longest text", [][]int{upFrom(100, api.MaxLong)}, []int{0}, 4*api.MaxLong + 25},
	} {
		l, cost, e := slip.Nearest(c, x.texts)
		wantErr(t, x.what, e, api.OK)
		want(t, x.what, l, x.indices)
		want(t, x.what, cost, x.cost)
	}
	// The gloss of the copying is not one of the texts.
	c = plain([]int{1, 2}, []int{1, 11, 2})
	c.Glosses = []api.Gloss{{At: 1, Words: []int{11}}, {At: 2, Words: []int{11}}}
	l, cost, e := slip.Nearest(c, [][]int{{1}, {1, 2}})
	if e != api.OK || !slices.Equal(l, []int{1}) || cost != 5 {
		t.Error("with glosses", l, cost, e)
	}
}

// TestNearestErrors is of P2.19.
func TestNearestErrors(t *testing.T) {
	for _, x := range []struct {
		what  string
		texts [][]int
		e     api.Errno
	}{
		{"no texts", nil, api.ErrNone},
		{"too many texts", make([][]int, api.MaxTexts+1), api.ErrLimit},
		{"too many wrong texts", slices.Repeat([][]int{{0}}, api.MaxTexts+1), api.ErrLimit},
		{"text too long", [][]int{{1}, words(api.MaxLong+1, 1)}, api.ErrLimit},
		{"a wrong text, and one too long", [][]int{{0}, words(api.MaxLong+1, 1)}, api.ErrLimit},
		{"word 0", [][]int{{1}, {1, 0}}, api.ErrArg},
		{"word -1", [][]int{{-1}}, api.ErrArg},
		{"word too great", [][]int{{api.MaxWord + 1}, {1}}, api.ErrArg},
		{"greatest word", [][]int{{api.MaxWord}}, api.OK},
	} {
		l, cost, e := slip.Nearest(example(), x.texts)
		if wantErr(t, x.what, e, x.e); e != api.OK && (len(l) > 0 || cost != 0) {
			t.Error(x.what, l, cost)
		}
	}
}

// TestCut is of P2.19.
func TestCut(t *testing.T) {
	c := example()
	c.Glosses = []api.Gloss{{At: 5, Words: []int{1}}, {At: 7, Words: []int{2}}, {At: 3, Words: []int{11}}, {At: 0, Words: []int{3, 4}}, {At: 5, Words: []int{5}}}
	part := func(text, copy []int, glosses ...api.Gloss) api.Copying {
		return api.Copying{Hand: exampleHand(), Text: text, Glosses: glosses, Copy: copy}
	}
	g := c.Glosses
	at := func(at int, g api.Gloss) api.Gloss { return api.Gloss{At: at, Words: g.Words} }
	for _, x := range []struct {
		at, in        int
		first, second api.Copying
	}{
		{5, 2, part([]int{5, 7, 3, 9, 7}, []int{5, 7}, g[0], g[2], g[3], g[4]), part([]int{4, 6}, []int{8, 6, 6}, at(0, g[0]), at(2, g[1]), at(0, g[4]))},
		{0, 0, part(nil, nil, g[3]), c},
		{7, 5, c, part(nil, nil, at(0, g[1]))},
		{0, 5, part(nil, c.Copy, g[3]), part(c.Text, nil, g...)},
		{7, 0, part(c.Text, nil, g...), part(nil, c.Copy, at(0, g[1]))},
		{2, 1, part([]int{5, 7}, []int{5}, g[3]), part([]int{3, 9, 7, 4, 6}, []int{7, 8, 6, 6}, at(3, g[0]), at(5, g[1]), at(1, g[2]), at(3, g[4]))},
	} {
		first, second, e := slip.Cut(c, x.at, x.in)
		wantErr(t, "Cut", e, api.OK)
		wantCopying(t, "the first part", first, x.first)
		wantCopying(t, "the second part", second, x.second)
	}
	for _, p := range [][2]int{{-1, 0}, {0, -1}, {8, 0}, {0, 6}, {1 << 62, 0}, {0, -1 << 63}} {
		first, second, e := slip.Cut(c, p[0], p[1])
		check(t, "Cut", e, api.ErrArg, !zeroCopying(first) || !zeroCopying(second))
	}
	first, second, e := slip.Cut(example(), 5, 2)
	if e != api.OK || leastOf(t, first) != 3 || leastOf(t, second) != 5 {
		t.Error("Cut of the example", first, second, e)
	}
}

// TestCutAll is of P2.19 and P2.21: both parts are right copyings, which cost no less than the whole, and just as much at both ends.
func TestCutAll(t *testing.T) {
	same, more := 0, 0
	someCopyings(150, 8, func(c api.Copying) {
		least := leastOf(t, c)
		n, m := len(c.Text), len(c.Copy)
		for i := range n + 1 {
			for j := range m + 1 {
				first, second, e := slip.Cut(c, i, j)
				wantErr(t, "Cut", e, api.OK)
				both := leastOf(t, first) + leastOf(t, second)
				end := i == 0 && j == 0 || i == n && j == m
				if both < least || end && both != least {
					t.Error("Cut", c, i, j, both, least)
				}
				if both == least {
					same++
				} else {
					more++
				}
			}
		}
	})
	if same < 100 || more < 100 {
		t.Error("too few cuts of a sort:", same, more)
	}
}

// TestNearestAll is of P2.19 and P2.22.
func TestNearestAll(t *testing.T) {
	r := rand.New(rand.NewSource(22))
	found := 0
	someCopyings(300, 6, func(c api.Copying) {
		var texts [][]int
		for range 1 + r.Intn(api.MaxTexts) {
			texts = append(texts, someWords(r, r.Intn(5), 2))
		}
		if r.Intn(2) == 0 {
			texts[r.Intn(len(texts))] = slices.Clone(c.Copy)
		}
		var should []int
		least := 1 << 40
		for i, text := range texts {
			n := leastOf(t, api.Copying{Hand: c.Hand, Text: text, Copy: c.Copy})
			if n < least {
				should, least = nil, n
			}
			if n == least {
				should = append(should, i)
			}
		}
		l, cost, e := slip.Nearest(c, texts)
		wantErr(t, "Nearest", e, api.OK)
		want(t, "Nearest", l, should)
		want(t, "Nearest", cost, least)
		for i, text := range texts {
			if slices.Equal(text, c.Copy) {
				found++
				if cost != 0 || !slices.Contains(l, i) {
					t.Error("the copy is not the nearest one:", c, texts, l, cost)
				}
			} else if cost == 0 && slices.Contains(l, i) {
				t.Error("a text that is not the copy costs nothing:", c, texts, l)
			}
		}
	})
	if found < 50 {
		t.Error("too few texts that are the copy:", found)
	}
}
