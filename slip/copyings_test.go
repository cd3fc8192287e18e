package slip_test

import (
	"math/rand"
	"slices"
	"testing"

	"pecia/api"
	"pecia/slip"
)

// manyMixes is n different right mixes.
func manyMixes(n int) []api.Mix {
	var l []api.Mix
	for i := range n {
		l = append(l, api.Mix{From: 1 + i, To: 2 + i, Cost: 1})
	}
	return l
}

func manyGlosses(n int) []api.Gloss {
	var l []api.Gloss
	for range n {
		l = append(l, api.Gloss{At: 0, Words: []int{1}})
	}
	return l
}

// wrongCopying is a copying with its first error.
type wrongCopying struct {
	what string
	c    api.Copying
	e    api.Errno
}

// checked is copyings with what Check tells of them.
func checked() []wrongCopying {
	with := func(what string, e api.Errno, change func(c *api.Copying)) wrongCopying {
		return wrongCopying{what, changed(change), e}
	}
	mixed := func(what string, e api.Errno, l ...api.Mix) wrongCopying {
		return with(what, e, func(c *api.Copying) { c.Hand.Mixes = l })
	}
	glossed := func(what string, e api.Errno, at int, words ...int) wrongCopying {
		return with(what, e, func(c *api.Copying) { c.Glosses = append(c.Glosses, api.Gloss{At: at, Words: words}) })
	}
	all := []wrongCopying{
		{"example", example(), api.OK},
		{"nothing", api.Copying{}, api.ErrArg},
		{"a hand alone", api.Copying{Hand: exampleHand()}, api.OK},
		with("no mixes", api.OK, func(c *api.Copying) { c.Hand.Mixes = nil }),
		with("most mixes", api.OK, func(c *api.Copying) { c.Hand.Mixes = manyMixes(api.MaxMixes) }),
		with("too many mixes", api.ErrLimit, func(c *api.Copying) { c.Hand.Mixes = manyMixes(api.MaxMixes + 1) }),
		with("too many wrong mixes", api.ErrLimit, func(c *api.Copying) { c.Hand.Mixes = make([]api.Mix, api.MaxMixes+1) }),
		with("a wrong cost, and too many mixes", api.ErrArg, func(c *api.Copying) { c.Hand.Mixes, c.Hand.Add = manyMixes(api.MaxMixes+1), 0 }),
		mixed("least mix", api.OK, api.Mix{From: 1, To: 2, Cost: 1}),
		mixed("greatest mix", api.OK, api.Mix{From: api.MaxWord, To: api.MaxWord - 1, Cost: api.MaxSlipCost}),
		mixed("from 0", api.ErrArg, api.Mix{From: 0, To: 2, Cost: 1}),
		mixed("from a word too great", api.ErrArg, api.Mix{From: api.MaxWord + 1, To: 2, Cost: 1}),
		mixed("to 0", api.ErrArg, api.Mix{From: 1, To: 0, Cost: 1}),
		mixed("to a word too great", api.ErrArg, api.Mix{From: 1, To: api.MaxWord + 1, Cost: 1}),
		mixed("to the same word", api.ErrArg, api.Mix{From: 2, To: 2, Cost: 1}),
		mixed("cost 0", api.ErrArg, api.Mix{From: 1, To: 2, Cost: 0}),
		mixed("cost too great", api.ErrArg, api.Mix{From: 1, To: 2, Cost: api.MaxSlipCost + 1}),
		mixed("a mix twice", api.ErrArg, api.Mix{From: 1, To: 2, Cost: 1}, api.Mix{From: 3, To: 2, Cost: 1}, api.Mix{From: 1, To: 2, Cost: 2}),
		mixed("mixes that go round", api.OK, api.Mix{From: 1, To: 2, Cost: 1}, api.Mix{From: 2, To: 1, Cost: 1}, api.Mix{From: 1, To: 3, Cost: 1}, api.Mix{From: 3, To: 2, Cost: 1}),
		with("a wrong mix, and a text too long", api.ErrArg, func(c *api.Copying) {
			c.Hand.Mixes, c.Text = []api.Mix{{From: 1, To: 1, Cost: 1}}, words(api.MaxLong+1, 1)
		}),
		with("no text", api.OK, func(c *api.Copying) { c.Text, c.Glosses = nil, nil }),
		with("longest text", api.OK, func(c *api.Copying) { c.Text = words(api.MaxLong, 1) }),
		with("text too long", api.ErrLimit, func(c *api.Copying) { c.Text = words(api.MaxLong+1, 1) }),
		with("wrong text too long", api.ErrLimit, func(c *api.Copying) { c.Text = words(api.MaxLong+1, 0) }),
		with("no copy", api.OK, func(c *api.Copying) { c.Copy = nil }),
		with("longest copy", api.OK, func(c *api.Copying) { c.Copy = words(api.MaxLong, 1) }),
		with("copy too long", api.ErrLimit, func(c *api.Copying) { c.Copy = words(api.MaxLong+1, 1) }),
		with("wrong text, and copy too long", api.ErrLimit, func(c *api.Copying) { c.Text, c.Copy = []int{0}, words(api.MaxLong+1, 1) }),
		with("most glosses", api.OK, func(c *api.Copying) { c.Glosses = manyGlosses(api.MaxGlosses) }),
		with("too many glosses", api.ErrLimit, func(c *api.Copying) { c.Glosses = manyGlosses(api.MaxGlosses + 1) }),
		with("wrong text, and too many glosses", api.ErrLimit, func(c *api.Copying) { c.Text, c.Glosses = []int{0}, manyGlosses(api.MaxGlosses+1) }),
		with("greatest words", api.OK, func(c *api.Copying) { c.Text[6], c.Copy[4] = api.MaxWord, api.MaxWord }),
		with("last word of the text 0", api.ErrArg, func(c *api.Copying) { c.Text[6] = 0 }),
		with("word of the text -1", api.ErrArg, func(c *api.Copying) { c.Text[0] = -1 }),
		with("word of the text too great", api.ErrArg, func(c *api.Copying) { c.Text[3] = api.MaxWord + 1 }),
		with("last word of the copy 0", api.ErrArg, func(c *api.Copying) { c.Copy[4] = 0 }),
		with("word of the copy too great", api.ErrArg, func(c *api.Copying) { c.Copy[0] = api.MaxWord + 1 }),
		glossed("gloss ahead of all", api.OK, 0, 1),
		glossed("gloss behind all", api.OK, 7, 1),
		glossed("gloss at -1", api.ErrArg, -1, 1),
		glossed("gloss behind more than all", api.ErrArg, 8, 1),
		glossed("empty gloss", api.ErrArg, 3),
		glossed("longest gloss", api.OK, 3, upFrom(1, api.MaxGlossLong)...),
		glossed("gloss too long", api.ErrArg, 3, upFrom(1, api.MaxGlossLong+1)...),
		glossed("the same gloss again", api.OK, 3, 11),
		glossed("greatest word of a gloss", api.OK, 3, api.MaxWord),
		glossed("word of a gloss 0", api.ErrArg, 3, 1, 0),
		glossed("word of a gloss too great", api.ErrArg, 3, api.MaxWord+1),
	}
	return append(all, costChecked(with)...)
}

// costChecked is copyings with each cost in turn as little, and as great, as it can be, and by one less and more.
func costChecked(with func(string, api.Errno, func(c *api.Copying)) wrongCopying) []wrongCopying {
	var all []wrongCopying
	for i, what := range []string{"Omit", "Leap", "Twice", "Gloss", "Add"} {
		for cost, e := range map[int]api.Errno{-1: api.ErrArg, 0: api.ErrArg, 1: api.OK, api.MaxSlipCost: api.OK, api.MaxSlipCost + 1: api.ErrArg} {
			all = append(all, with(what, e, func(c *api.Copying) {
				h := &c.Hand
				*[]*int{&h.Omit, &h.Leap, &h.Twice, &h.Gloss, &h.Add}[i] = cost
			}))
		}
	}
	return all
}

// TestCheck is of P2.1.
func TestCheck(t *testing.T) {
	for _, x := range checked() {
		wantErr(t, x.what, slip.Check(x.c), x.e)
	}
}

// TestCheckFirst is of the sentence ahead of P2.1: each function returns the error of Check first, and nothing else.
func TestCheckFirst(t *testing.T) {
	for _, x := range checked() {
		if x.e != api.OK {
			checkFirst(t, x.c, x.e)
		}
	}
}

func checkFirst(t *testing.T, c api.Copying, want api.Errno) {
	t.Helper()
	wrong := []api.Slip{{Kind: 9, At: -1}}
	l, e := slip.Slips(c, -1, -1)
	check(t, "Slips", e, want, len(l) > 0)
	n, e := slip.Price(c, wrong[0])
	check(t, "Price", e, want, n != 0)
	made, e := slip.Write(c, wrong)
	check(t, "Write", e, want, len(made) > 0)
	n, is, e := slip.Explains(c, wrong)
	check(t, "Explains", e, want, n != 0 || is)
	a, e := slip.Best(c)
	check(t, "Best", e, want, len(a.Slips)+a.Cost+len(a.Table) != 0)
	check(t, "CheckBest", slip.CheckBest(c, api.Account{}), want, false)
	n, e = slip.Least(c)
	check(t, "Least", e, want, n != 0)
	n, e = slip.Count(c)
	check(t, "Count", e, want, n != 0)
	l, e = slip.Surely(c)
	check(t, "Surely", e, want, len(l) > 0)
	l, e = slip.Possibly(c)
	check(t, "Possibly", e, want, len(l) > 0)
	n, e = slip.Made(c, wrong[0])
	check(t, "Made", e, want, n != 0)
	n, e = slip.Missed(c, wrong[0])
	check(t, "Missed", e, want, n != 0)
	span, e := slip.Places(c, -1)
	check(t, "Places", e, want, span != api.Span{})
	all, some, e := slip.Kept(c)
	check(t, "Kept", e, want, len(all)+len(some) > 0)
	mended, l, e := slip.Mend(c, wrong, 5)
	check(t, "Mend", e, want, len(l) > 0 || !zeroCopying(mended))
	dearer, e := slip.Dearer(c, 9, -1)
	check(t, "Dearer", e, want, !zeroCopying(dearer))
	n, e = slip.Second(c)
	check(t, "Second", e, want, n != 0)
	nearest, n, e := slip.Nearest(c, nil)
	check(t, "Nearest", e, want, len(nearest) > 0 || n != 0)
	first, second, e := slip.Cut(c, -1, -1)
	check(t, "Cut", e, want, !zeroCopying(first) || !zeroCopying(second))
}

// TestSlips is of P2.1.
func TestSlips(t *testing.T) {
	c := example()
	c.Text = []int{5, 7, 5, 5, 7, 4}
	c.Copy = []int{5, 7, 8, 5, 7}
	c.Glosses = []api.Gloss{{At: 3, Words: []int{5, 7}}, {At: 2, Words: []int{8, 5, 7, 5}}, {At: 3, Words: []int{5}}, {At: 3, Words: []int{8}}}
	for _, x := range []struct {
		at, in int
		l      []api.Slip
	}{
		{0, 0, []api.Slip{omit(0, 0), add(0, 0, 5)}},
		{0, 5, []api.Slip{omit(0, 5)}},
		{1, 0, []api.Slip{omit(1, 0), leap(1, 0, 2), leap(1, 0, 3), twice(1, 0, 1), add(1, 0, 5)}},
		{2, 0, []api.Slip{omit(2, 0), leap(2, 0, 3), twice(2, 0, 2), add(2, 0, 5)}},
		{2, 2, []api.Slip{omit(2, 2), leap(2, 2, 3), add(2, 2, 8)}},
		{3, 3, []api.Slip{omit(3, 3), leap(3, 3, 1), twice(3, 3, 1), gloss(3, 3, 0), gloss(3, 3, 2), add(3, 3, 5)}},
		{3, 4, []api.Slip{omit(3, 4), leap(3, 4, 1), add(3, 4, 7)}},
		{5, 0, []api.Slip{omit(5, 0), twice(5, 0, 2), add(5, 0, 5)}},
		{5, 2, []api.Slip{mix(5, 2, 8), omit(5, 2), add(5, 2, 8)}},
		{6, 2, []api.Slip{add(6, 2, 8)}},
		{6, 5, nil},
	} {
		l, e := slip.Slips(c, x.at, x.in)
		wantErr(t, "Slips", e, api.OK)
		want(t, "Slips", l, x.l)
	}
	for _, p := range [][2]int{{-1, 0}, {0, -1}, {7, 0}, {0, 6}, {7, 6}, {1 << 62, 1 << 62}, {-1 << 63, 0}} {
		l, e := slip.Slips(c, p[0], p[1])
		check(t, "Slips", e, api.ErrArg, len(l) > 0)
	}
	l, e := slip.Slips(plain(nil, nil), 0, 0)
	wantErr(t, "Slips of nothing", e, api.OK)
	want(t, "Slips of nothing", l, []api.Slip{})
}

// TestSlipsTryAll is of P2.1: the slips are those that are right by the table of the document, and write what the copy has.
func TestSlipsTryAll(t *testing.T) {
	seen := map[int]int{}
	someCopyings(300, 5, func(c api.Copying) {
		for i := range len(c.Text) + 1 {
			for j := range len(c.Copy) + 1 {
				var should []api.Slip
				for _, s := range allSlips(i, j) {
					_, writes, cost, is := effect(c, s)
					n, e := slip.Price(c, s)
					if is && (e != api.OK || n != cost) || !is && (e != api.ErrNone || n != 0) {
						t.Error("Price", c, s, n, e)
					}
					if is && j+len(writes) <= len(c.Copy) && slices.Equal(writes, c.Copy[j:j+len(writes)]) {
						should = append(should, s)
						seen[s.Kind]++
					}
				}
				l, e := slip.Slips(c, i, j)
				wantErr(t, "Slips", e, api.OK)
				want(t, "Slips", l, should)
			}
		}
	})
	for kind := api.SlMix; kind <= api.SlAdd; kind++ {
		if seen[kind] < 50 {
			t.Error("too few slips of a kind:", kind, seen)
		}
	}
}

// TestPrice is of P2.1.
func TestPrice(t *testing.T) {
	const far = 1 << 62
	for _, x := range []struct {
		s    api.Slip
		cost int
		e    api.Errno
	}{
		{mix(5, 0, 8), 2, api.OK},
		{mix(5, 5, 8), 2, api.OK}, // the copy ends there, but the slip is right
		{mix(5, 0, 9), 0, api.ErrNone},
		{mix(4, 0, 8), 0, api.ErrNone},
		{mix(7, 0, 8), 0, api.ErrNone},
		{omit(0, 0), 4, api.OK},
		{omit(6, 5), 4, api.OK},
		{omit(7, 5), 0, api.ErrNone},
		{leap(2, 0, 3), 3, api.OK},
		{leap(2, 0, 2), 0, api.ErrNone},
		{leap(2, 0, 0), 0, api.ErrNone},
		{leap(2, 0, -1), 0, api.ErrNone},
		{leap(2, 0, far), 0, api.ErrNone},
		{leap(0, 0, 1), 0, api.ErrNone},
		{leap(7, 0, 1), 0, api.ErrNone},
		{twice(7, 5, 7), 3, api.OK},
		{twice(7, 5, 8), 0, api.ErrNone},
		{twice(1, 0, 0), 0, api.ErrNone},
		{twice(1, 0, -1), 0, api.ErrNone},
		{twice(0, 0, 1), 0, api.ErrNone},
		{twice(1, 0, far), 0, api.ErrNone},
		{gloss(3, 0, 0), 2, api.OK},
		{gloss(3, 0, 1), 0, api.ErrNone},
		{gloss(3, 0, -1), 0, api.ErrNone},
		{gloss(2, 0, 0), 0, api.ErrNone},
		{add(0, 0, 1), 5, api.OK},
		{add(7, 5, api.MaxWord), 5, api.OK},
		{add(7, 5, 0), 0, api.ErrNone},
		{add(7, 5, api.MaxWord+1), 0, api.ErrNone},
		{omit(-1, 0), 0, api.ErrNone},
		{omit(0, -1), 0, api.ErrNone},
		{omit(0, 6), 0, api.ErrNone},
		{add(8, 0, 1), 0, api.ErrNone},
		{add(far, 0, 1), 0, api.ErrNone},
		{add(0, far, 1), 0, api.ErrNone},
		{api.Slip{}, 0, api.ErrNone},
		{api.Slip{Kind: 7}, 0, api.ErrNone},
		{api.Slip{Kind: -1}, 0, api.ErrNone},
		{api.Slip{Kind: api.SlMix, At: 5, Long: 1, Word: 8}, 0, api.ErrNone},
		{api.Slip{Kind: api.SlOmit, Long: 1}, 0, api.ErrNone},
		{api.Slip{Kind: api.SlOmit, Word: 5}, 0, api.ErrNone},
		{api.Slip{Kind: api.SlLeap, At: 2, Long: 3, Word: 7}, 0, api.ErrNone},
		{api.Slip{Kind: api.SlTwice, At: 1, Long: 1, Word: 5}, 0, api.ErrNone},
		{api.Slip{Kind: api.SlGloss, At: 3, Word: 11}, 0, api.ErrNone},
		{api.Slip{Kind: api.SlAdd, Long: 1, Word: 5}, 0, api.ErrNone},
	} {
		cost, e := slip.Price(example(), x.s)
		if cost != x.cost || e != x.e {
			t.Error("Price", x.s, cost, e)
		}
	}
}

// TestWrite is of P2.2.
func TestWrite(t *testing.T) {
	c := example()
	many := func(n int) []api.Slip {
		var l []api.Slip
		for i := range n {
			l = append(l, add(7, 7+i, 1))
		}
		return l
	}
	for _, x := range []struct {
		what string
		l    []api.Slip
		made []int
		e    api.Errno
	}{
		{"nothing", nil, c.Text, api.OK},
		{"example", exampleList(), c.Copy, api.OK},
		{"two at the end", []api.Slip{add(7, 7, 1), twice(7, 8, 2)}, []int{5, 7, 3, 9, 7, 4, 6, 1, 4, 6}, api.OK},
		{"two at one place", []api.Slip{gloss(3, 3, 0), gloss(3, 4, 0)}, []int{5, 7, 3, 11, 11, 9, 7, 4, 6}, api.OK},
		{"ahead of all", []api.Slip{add(0, 0, 9), omit(0, 1)}, []int{9, 7, 3, 9, 7, 4, 6}, api.OK},
		{"all but one left out", []api.Slip{omit(0, 0), omit(1, 0), omit(2, 0), omit(3, 0), omit(4, 0), omit(5, 0)}, []int{6}, api.OK},
		{"most slips", many(api.MaxSlips), append(slices.Clone(c.Text), words(api.MaxSlips, 1)...), api.OK},
		{"too many slips", many(api.MaxSlips + 1), nil, api.ErrLimit},
		{"too many wrong slips", make([]api.Slip, api.MaxSlips+1), nil, api.ErrLimit},
		{"In too small", []api.Slip{omit(2, 1)}, nil, api.ErrForm},
		{"In too great", []api.Slip{omit(2, 3)}, nil, api.ErrForm},
		{"In of the second one", []api.Slip{omit(2, 2), omit(4, 4)}, nil, api.ErrForm},
		{"At that falls", []api.Slip{omit(3, 3), omit(1, 1)}, nil, api.ErrForm},
		{"At twice", []api.Slip{omit(3, 3), omit(3, 3)}, nil, api.ErrForm},
		{"within a leap", []api.Slip{leap(2, 2, 3), omit(4, 2)}, nil, api.ErrForm},
		{"behind the text", []api.Slip{omit(7, 7)}, nil, api.ErrForm},
		{"far behind the text", []api.Slip{add(1<<62, 1<<62, 1)}, nil, api.ErrForm},
		{"ahead of the text", []api.Slip{add(-1, -1, 1)}, nil, api.ErrForm},
		{"not a mix", []api.Slip{mix(0, 0, 8)}, nil, api.ErrForm},
		{"no kind", []api.Slip{{}}, nil, api.ErrForm},
		{"right, then wrong", []api.Slip{omit(0, 0), {Kind: 7, At: 1}}, nil, api.ErrForm},
	} {
		made, e := slip.Write(c, x.l)
		wantErr(t, x.what, e, x.e)
		want(t, x.what, made, x.made)
	}
	made, e := slip.Write(plain(nil, nil), nil)
	wantErr(t, "no text", e, api.OK)
	want(t, "no text", made, []int{})
}

// TestWriteTryAll is of P2.2: for many lists, right and wrong ones, Write makes what the document tells, and Explains agrees.
func TestWriteTryAll(t *testing.T) {
	r := rand.New(rand.NewSource(22))
	right, wrong := 0, 0
	someCopyings(2000, 8, func(c api.Copying) {
		made, l, cost := someCopy(r, c, api.MaxLong, 4, 40)
		c.Copy = made
		n, is, e := slip.Explains(c, l)
		if e != api.OK || !is || n != cost {
			t.Error("Explains", c, l, n, is, e)
		}
		if len(l) > 0 {
			s := &l[r.Intn(len(l))]
			*[]*int{&s.Kind, &s.At, &s.In, &s.Long, &s.Word}[r.Intn(5)] += 1 - 2*r.Intn(2)
		}
		should, is := written(c, l)
		words, e := slip.Write(c, l)
		if is {
			right++
			wantErr(t, "Write", e, api.OK)
			want(t, "Write", words, should)
		} else {
			wrong++
			check(t, "Write", e, api.ErrForm, len(words) > 0)
		}
		n, same, e := slip.Explains(c, l)
		if wantErr(t, "Explains", e, api.OK); same != (is && slices.Equal(should, made)) || !same && n != 0 {
			t.Error("Explains", c, l, n, same)
		}
	})
	if right < 200 || wrong < 200 {
		t.Error("too few lists of a sort:", right, wrong)
	}
}

// TestExplains is of P2.2.
func TestExplains(t *testing.T) {
	for _, x := range []struct {
		what string
		c    api.Copying
		l    []api.Slip
		cost int
		is   bool
	}{
		{"example", example(), exampleList(), 8, true},
		{"not all slips", example(), exampleList()[:2], 0, false},
		{"none", example(), nil, 0, false},
		{"nothing", plain(nil, nil), nil, 0, true},
		{"the text", plain([]int{3, 4}, []int{3, 4}), nil, 0, true},
		{"the text by slips", plain([]int{3, 4}, []int{3, 4}), []api.Slip{omit(0, 0), add(1, 0, 3)}, 9, true},
		{"another word", plain([]int{3, 4}, []int{3, 5}), nil, 0, false},
		{"a word less", plain([]int{3, 4}, []int{3}), nil, 0, false},
		{"a word more", plain([]int{3, 4}, []int{3, 4, 4}), nil, 0, false},
		{"a list that cannot be written", plain([]int{3, 4}, []int{3, 4}), []api.Slip{{}}, 0, false},
		{"too many slips", plain([]int{3, 4}, []int{3, 4}), make([]api.Slip, api.MaxSlips+1), 0, false},
		{"an In beyond the copy", plain([]int{3, 4}, []int{3}), []api.Slip{omit(1, 2)}, 0, false},
	} {
		cost, is, e := slip.Explains(x.c, x.l)
		if e != api.OK || cost != x.cost || is != x.is {
			t.Error(x.what, cost, is, e)
		}
	}
}
