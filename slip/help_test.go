package slip_test

import (
	"cmp"
	"math/rand"
	"reflect"
	"slices"
	"testing"

	"pecia/api"
	"pecia/slip"
)

// example is the first copying of the chapter's examples.
func example() api.Copying {
	return api.Copying{
		Hand:    exampleHand(),
		Text:    []int{5, 7, 3, 9, 7, 4, 6},
		Glosses: []api.Gloss{{At: 3, Words: []int{11}}},
		Copy:    []int{5, 7, 8, 6, 6},
	}
}

func exampleHand() api.Hand {
	return api.Hand{Omit: 4, Leap: 3, Twice: 3, Gloss: 2, Add: 5, Mixes: []api.Mix{{From: 4, To: 8, Cost: 2}}}
}

// plain is a copying by the hand of the examples, without glosses.
func plain(text, copy []int) api.Copying {
	return api.Copying{Hand: exampleHand(), Text: text, Copy: copy}
}

func mix(at, in, word int) api.Slip {
	return api.Slip{Kind: api.SlMix, At: at, In: in, Word: word}
}
func omit(at, in int) api.Slip { return api.Slip{Kind: api.SlOmit, At: at, In: in} }
func leap(at, in, long int) api.Slip {
	return api.Slip{Kind: api.SlLeap, At: at, In: in, Long: long}
}
func twice(at, in, long int) api.Slip {
	return api.Slip{Kind: api.SlTwice, At: at, In: in, Long: long}
}
func gloss(at, in, index int) api.Slip {
	return api.Slip{Kind: api.SlGloss, At: at, In: in, Long: index}
}
func add(at, in, word int) api.Slip {
	return api.Slip{Kind: api.SlAdd, At: at, In: in, Word: word}
}

// exampleList is the list that explains the first copying of the examples at the least cost.
func exampleList() []api.Slip {
	return []api.Slip{leap(2, 2, 3), mix(5, 2, 8), twice(7, 4, 1)}
}

// words is a word n times.
func words(n, word int) []int {
	l := make([]int, n)
	for i := range l {
		l[i] = word
	}
	return l
}

// upFrom is n words, each greater by 1 than the one before it.
func upFrom(word, n int) []int {
	l := make([]int, n)
	for i := range l {
		l[i] = word + i
	}
	return l
}

func cloneCopying(c api.Copying) api.Copying {
	c.Hand.Mixes = slices.Clone(c.Hand.Mixes)
	c.Text = slices.Clone(c.Text)
	c.Copy = slices.Clone(c.Copy)
	c.Glosses = slices.Clone(c.Glosses)
	for i := range c.Glosses {
		c.Glosses[i].Words = slices.Clone(c.Glosses[i].Words)
	}
	return c
}

// changed is the first copying of the examples with a change.
func changed(change func(c *api.Copying)) api.Copying {
	c := example()
	change(&c)
	return c
}

func compareSlips(a, b api.Slip) int {
	return cmp.Or(a.At-b.At, a.In-b.In, a.Kind-b.Kind, a.Long-b.Long, a.Word-b.Word)
}

func wantErr(t *testing.T, what string, got, want api.Errno) {
	t.Helper()
	if got != want {
		t.Errorf("%s: error %d, want %d", what, got, want)
	}
}

// check is that there is an error, and with it nothing else.
func check(t *testing.T, what string, got, want api.Errno, more bool) {
	t.Helper()
	wantErr(t, what, got, want)
	if more {
		t.Error(what, "returns something with an error")
	}
}

// want compares results with what they should be; an empty slice is the same whether it is nil or not.
func want(t *testing.T, what string, got, should any) {
	t.Helper()
	a, b := reflect.ValueOf(got), reflect.ValueOf(should)
	if a.Kind() == reflect.Slice && a.Len() == 0 && b.Len() == 0 {
		return
	}
	if !reflect.DeepEqual(got, should) {
		t.Errorf("%s: %v, want %v", what, got, should)
	}
}

func wantCopying(t *testing.T, what string, got, should api.Copying) {
	t.Helper()
	want(t, what+": mixes", got.Hand.Mixes, should.Hand.Mixes)
	want(t, what+": text", got.Text, should.Text)
	want(t, what+": copy", got.Copy, should.Copy)
	want(t, what+": glosses", got.Glosses, should.Glosses)
	got.Hand.Mixes, should.Hand.Mixes = nil, nil
	want(t, what+": hand", got.Hand, should.Hand)
}

// zeroCopying is whether all fields of a copying are zero.
func zeroCopying(c api.Copying) bool {
	return len(c.Text)+len(c.Copy)+len(c.Glosses)+len(c.Hand.Mixes) == 0 && c.Hand.Omit == 0 && c.Hand.Leap == 0 && c.Hand.Twice == 0 && c.Hand.Gloss == 0 && c.Hand.Add == 0
}

// leastOf is Least of a right copying.
func leastOf(t *testing.T, c api.Copying) int {
	t.Helper()
	n, e := slip.Least(c)
	wantErr(t, "Least", e, api.OK)
	return n
}

// effect is what a slip does that is right at its At, by the table of the document: how many words of the text are done then, what it writes, and its cost.
func effect(c api.Copying, s api.Slip) (to int, writes []int, cost int, is bool) {
	n, i := len(c.Text), s.At
	switch {
	case i < 0 || i > n:
	case s.Kind == api.SlMix && s.Long == 0 && i < n:
		for _, x := range c.Hand.Mixes {
			if x.From == c.Text[i] && x.To == s.Word {
				return i + 1, []int{s.Word}, x.Cost, true
			}
		}
	case s.Kind == api.SlOmit && s.Long == 0 && s.Word == 0 && i < n:
		return i + 1, nil, c.Hand.Omit, true
	case s.Kind == api.SlLeap && s.Word == 0 && i >= 1 && s.Long >= 1 && s.Long <= n-i && c.Text[i+s.Long-1] == c.Text[i-1]:
		return i + s.Long, nil, c.Hand.Leap, true
	case s.Kind == api.SlTwice && s.Word == 0 && s.Long >= 1 && s.Long <= i:
		return i, c.Text[i-s.Long : i], c.Hand.Twice, true
	case s.Kind == api.SlGloss && s.Word == 0 && s.Long >= 0 && s.Long < len(c.Glosses) && c.Glosses[s.Long].At == i:
		return i, c.Glosses[s.Long].Words, c.Hand.Gloss, true
	case s.Kind == api.SlAdd && s.Long == 0 && s.Word >= 1 && s.Word <= api.MaxWord:
		return i, []int{s.Word}, c.Hand.Add, true
	}
	return 0, nil, 0, false
}

// written is what a list of slips makes, word by word; false if it cannot be written.
func written(c api.Copying, l []api.Slip) ([]int, bool) {
	var done []int
	i := 0
	for _, s := range l {
		for i < s.At && i < len(c.Text) {
			done = append(done, c.Text[i])
			i++
		}
		to, writes, _, is := effect(c, s)
		if !is || s.At != i || s.In != len(done) {
			return nil, false
		}
		done = append(done, writes...)
		i = to
	}
	for ; i < len(c.Text); i++ {
		done = append(done, c.Text[i])
	}
	return done, true
}

// allSlips is all slips at a place with small fields, right and wrong ones.
func allSlips(at, in int) []api.Slip {
	var l []api.Slip
	for kind := 0; kind <= 7; kind++ {
		for long := -1; long <= 6; long++ {
			for word := -1; word <= 5; word++ {
				l = append(l, api.Slip{Kind: kind, At: at, In: in, Long: long, Word: word})
			}
		}
	}
	return l
}

// A list explains a copying.
type list struct {
	slips  []api.Slip
	cost   int
	places [][2]int
	kept   []int
}

// allLists is all lists that explain a copying, whose words are from 1 to 5; by their costs.
func allLists(c api.Copying) []list {
	var all []list
	n, m := len(c.Text), len(c.Copy)
	at := map[[2]int][]api.Slip{}
	for i := range n + 1 {
		for j := range m + 1 {
			for _, s := range allSlips(i, j) {
				if _, writes, _, is := effect(c, s); is && j+len(writes) <= m && slices.Equal(writes, c.Copy[j:j+len(writes)]) {
					at[[2]int{i, j}] = append(at[[2]int{i, j}], s)
				}
			}
		}
	}
	var from func(i, j int, l list)
	from = func(i, j int, l list) {
		l.places = append(slices.Clone(l.places), [2]int{i, j})
		if i == n && j == m {
			all = append(all, l)
		}
		if i < n && j < m && c.Text[i] == c.Copy[j] {
			next := l
			next.kept = append(slices.Clone(l.kept), i)
			from(i+1, j+1, next)
		}
		for _, s := range at[[2]int{i, j}] {
			to, writes, cost, _ := effect(c, s)
			next := l
			next.slips = append(slices.Clone(l.slips), s)
			next.cost += cost
			from(to, j+len(writes), next)
		}
	}
	from(0, 0, list{})
	slices.SortStableFunc(all, func(a, b list) int { return a.cost - b.cost })
	return all
}

// someHand is a hand with low costs, so that many lists cost as little.
func someHand(r *rand.Rand, vary int) api.Hand {
	cost := func() int { return 1 + r.Intn(4) }
	h := api.Hand{Omit: cost(), Leap: cost(), Twice: cost(), Gloss: cost(), Add: cost()}
	for from := 1; from <= vary; from++ {
		if to := 1 + r.Intn(vary); to != from && r.Intn(2) == 0 {
			h.Mixes = append(h.Mixes, api.Mix{From: from, To: to, Cost: cost()})
		}
	}
	return h
}

func someWords(r *rand.Rand, n, vary int) []int {
	l := make([]int, n)
	for i := range l {
		l[i] = 1 + r.Intn(vary)
	}
	return l
}

// someCopy is what some slips make of the text of a copying, these slips, and what they cost; at most so many words.
func someCopy(r *rand.Rand, c api.Copying, most, vary, slips int) ([]int, []api.Slip, int) {
	for {
		var made []int
		var l []api.Slip
		cost, i := 0, 0
		for i < len(c.Text) || r.Intn(4) == 0 {
			s := api.Slip{Kind: 1 + r.Intn(6), At: i, In: len(made), Long: r.Intn(5), Word: 1 + r.Intn(vary)}
			if s.Kind == api.SlMix || s.Kind == api.SlOmit || s.Kind == api.SlAdd {
				s.Long = 0
			}
			if s.Kind != api.SlMix && s.Kind != api.SlAdd {
				s.Word = 0
			}
			to, writes, more, is := effect(c, s)
			if is && r.Intn(100) < slips && len(l) < api.MaxSlips {
				l = append(l, s)
				made = append(made, writes...)
				cost += more
				i = to
			} else if i < len(c.Text) {
				made = append(made, c.Text[i])
				i++
			}
		}
		if len(made) <= most {
			return made, l, cost
		}
	}
}

// someCopyings calls do with copyings of at most so many words, always the same ones; about half of the copies were made by slips.
func someCopyings(n, most int, do func(c api.Copying)) {
	r := rand.New(rand.NewSource(int64(n*100 + most)))
	for range n {
		vary := 1 + r.Intn(4)
		c := api.Copying{Hand: someHand(r, vary), Text: someWords(r, r.Intn(most+1), vary)}
		for range r.Intn(4) {
			c.Glosses = append(c.Glosses, api.Gloss{At: r.Intn(len(c.Text) + 1), Words: someWords(r, 1+r.Intn(2), vary)})
		}
		if r.Intn(2) == 0 {
			c.Copy = someWords(r, r.Intn(most+1), vary)
		} else {
			c.Copy, _, _ = someCopy(r, c, most, vary, 30)
		}
		do(c)
	}
}
