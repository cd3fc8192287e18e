package hire_test

import (
	"math/rand"
	"reflect"
	"slices"
	"testing"

	"pecia/api"
	"pecia/hire"
)

func asks(day, scribe, piece int) api.Turn {
	return api.Turn{Kind: api.TuAsk, Day: day, Scribe: scribe, Piece: piece}
}
func quits(day, scribe, piece int) api.Turn {
	return api.Turn{Kind: api.TuQuit, Day: day, Scribe: scribe, Piece: piece}
}
func hires(day, scribe, piece, weeks int) api.Turn {
	return api.Turn{Kind: api.TuHire, Day: day, Scribe: scribe, Piece: piece, Weeks: weeks}
}
func brings(day, scribe, piece int) api.Turn {
	return api.Turn{Kind: api.TuBack, Day: day, Scribe: scribe, Piece: piece}
}
func swaps(day, scribe, other int) api.Turn {
	return api.Turn{Kind: api.TuSwap, Day: day, Scribe: scribe, Other: other}
}

func register(scribes int, pieces []int, turns ...api.Turn) api.Hires {
	return api.Hires{Pieces: pieces, Scribes: scribes, Turns: turns}
}

// example is the register of the chapter's examples.
func example() api.Hires {
	return register(3, []int{101, 102, 103},
		hires(0, 0, 101, 1), hires(1, 1, 102, 2), asks(2, 0, 102), asks(3, 1, 101), asks(4, 2, 101), hires(5, 2, 103, 1))
}

func market(wishes ...[]int) api.Market { return api.Market{Wishes: wishes} }

// exampleMarket is the market of the chapter's examples.
func exampleMarket() api.Market { return market([]int{1, 2}, []int{0}, []int{0, 3}, []int{2}) }

// upTo is the numbers from a first one to a last one.
func upTo(first, last int) []int {
	var l []int
	for n := first; n <= last; n++ {
		l = append(l, n)
	}
	return l
}

func cloneHires(h api.Hires) api.Hires {
	h.Pieces, h.Turns = slices.Clone(h.Pieces), slices.Clone(h.Turns)
	return h
}

func cloneMarket(m api.Market) api.Market {
	m.Wishes = slices.Clone(m.Wishes)
	for i, l := range m.Wishes {
		m.Wishes[i] = slices.Clone(l)
	}
	return m
}

func wantErr(t *testing.T, what string, got, want api.Errno) {
	t.Helper()
	if got != want {
		t.Errorf("%s: error %d, want %d", what, got, want)
	}
}

// check is that there is an error, and with it nothing else.
func check(t *testing.T, what string, got, want api.Errno, more bool) {
	t.Helper()
	wantErr(t, what, got, want)
	if more {
		t.Error(what, "returns something with an error")
	}
}

// want compares results with what they should be; an empty slice is the same whether it is nil or not.
func want(t *testing.T, what string, got, should any) {
	t.Helper()
	a, b := reflect.ValueOf(got), reflect.ValueOf(should)
	if a.Kind() == reflect.Slice && a.Len() == 0 && b.Len() == 0 {
		return
	}
	if !reflect.DeepEqual(got, should) {
		t.Errorf("%s: %v, want %v", what, got, should)
	}
}

func wantMarket(t *testing.T, what string, got, should api.Market) {
	t.Helper()
	if !slices.EqualFunc(got.Wishes, should.Wishes, func(a, b []int) bool { return slices.Equal(a, b) }) {
		t.Errorf("%s: %v, want %v", what, got, should)
	}
}

func zeroDeal(d api.Deal) bool { return len(d.Gets)+len(d.Rounds) == 0 }

// books is what is so behind some turns, by the words of the document.
type books struct {
	day   int
	holds map[int]api.Held // by scribe
	waits map[int][]int    // by piece
}

// booksOf is the books of a register behind a day.
func booksOf(h api.Hires, day int) *books {
	b := &books{holds: map[int]api.Held{}, waits: map[int][]int{}}
	for _, t := range h.Turns {
		if t.Day <= day {
			b.do(t)
		}
	}
	return b
}

func (b *books) holder(piece int) (int, bool) {
	for scribe, x := range b.holds {
		if x.Piece == piece {
			return scribe, true
		}
	}
	return 0, false
}

// can is whether a formed turn is possible.
func (b *books) can(t api.Turn) bool {
	own, holds := b.holds[t.Scribe]
	waits := slices.Contains(b.waits[t.Piece], t.Scribe)
	switch {
	case t.Day < b.day:
		return false
	case t.Kind == api.TuAsk:
		return own.Piece != t.Piece && !waits
	case t.Kind == api.TuQuit:
		return waits
	case t.Kind == api.TuHire:
		_, isHeld := b.holder(t.Piece)
		first := len(b.waits[t.Piece]) == 0 || b.waits[t.Piece][0] == t.Scribe
		return !isHeld && !holds && first
	case t.Kind == api.TuBack:
		return own.Piece == t.Piece
	}
	his, both := b.holds[t.Other]
	return holds && both && !slices.Contains(b.waits[his.Piece], t.Scribe) && !slices.Contains(b.waits[own.Piece], t.Other)
}

func (b *books) leave(scribe, piece int) {
	var l []int
	for _, other := range b.waits[piece] {
		if other != scribe {
			l = append(l, other)
		}
	}
	b.waits[piece] = l
}

// do does a possible turn.
func (b *books) do(t api.Turn) {
	b.day = t.Day
	switch t.Kind {
	case api.TuAsk:
		b.waits[t.Piece] = append(slices.Clone(b.waits[t.Piece]), t.Scribe)
	case api.TuQuit:
		b.leave(t.Scribe, t.Piece)
	case api.TuHire:
		b.leave(t.Scribe, t.Piece)
		b.holds[t.Scribe] = api.Held{Piece: t.Piece, Scribe: t.Scribe, Since: t.Day, Due: t.Day + 7*t.Weeks}
	case api.TuBack:
		delete(b.holds, t.Scribe)
	case api.TuSwap:
		own, his := b.holds[t.Scribe], b.holds[t.Other]
		own.Piece, his.Piece = his.Piece, own.Piece
		b.holds[t.Scribe], b.holds[t.Other] = own, his
	}
}

// waitForEachOther is whether scribes do.
func (b *books) waitForEachOther(group []int) bool {
	for _, scribe := range group {
		waits := false
		for piece, queue := range b.waits {
			if !slices.Contains(queue, scribe) {
				continue
			}
			waits = true
			holder, isHeld := b.holder(piece)
			if !isHeld || !slices.Contains(group, holder) {
				return false
			}
		}
		if _, holds := b.holds[scribe]; !holds || !waits {
			return false
		}
	}
	return true
}

// someTurn is a formed turn of a register, on a day, possible or not.
func someTurn(r *rand.Rand, h api.Hires, day int) api.Turn {
	scribe, piece := r.Intn(h.Scribes), h.Pieces[r.Intn(len(h.Pieces))]
	switch r.Intn(8) {
	case 0, 1:
		return asks(day, scribe, piece)
	case 2, 3, 4:
		return hires(day, scribe, piece, 1+r.Intn(3))
	case 5:
		return brings(day, scribe, piece)
	case 6:
		if h.Scribes > 1 {
			return swaps(day, scribe, (scribe+1+r.Intn(h.Scribes-1))%h.Scribes)
		}
	}
	return quits(day, scribe, piece)
}

// someRegister is a register of so many scribes, pieces and turns at most; the last day is about half as many as the turns.
func someRegister(r *rand.Rand, scribes, pieces, turns int) api.Hires {
	h := register(1+r.Intn(scribes), nil)
	for _, n := range r.Perm(9 * pieces)[:1+r.Intn(pieces)] {
		h.Pieces = append(h.Pieces, 1+n)
	}
	b := booksOf(h, 0)
	for range r.Intn(turns + 1) {
		for range 20 {
			if x := someTurn(r, h, b.day+r.Intn(2)); b.can(x) {
				b.do(x)
				h.Turns = append(h.Turns, x)
				break
			}
		}
	}
	return h
}

// someRegisters calls do with registers of few scribes, always the same ones.
func someRegisters(n int, do func(h api.Hires)) {
	r := rand.New(rand.NewSource(int64(n)))
	for range n {
		do(someRegister(r, 5, 5, 30))
	}
}

// greatRegisters calls do with registers of all sizes, always the same ones.
func greatRegisters(n int, do func(h api.Hires)) {
	r := rand.New(rand.NewSource(int64(n)))
	for range n {
		do(someRegister(r, api.MaxScribes, api.MaxStock, api.MaxTurns))
	}
}

// subsets is all lists of numbers from 0 on, less than n, in increasing order, the empty one first.
func subsets(n int) [][]int {
	l := [][]int{nil}
	for i := range n {
		for _, s := range slices.Clone(l) {
			l = append(l, append(slices.Clone(s), i))
		}
	}
	return l
}

// arranged is all lists that have each of some numbers once.
func arranged(numbers []int) [][]int {
	if len(numbers) == 0 {
		return [][]int{nil}
	}
	var l [][]int
	for i, n := range numbers {
		rest := slices.Delete(slices.Clone(numbers), i, i+1)
		for _, s := range arranged(rest) {
			l = append(l, append([]int{n}, s...))
		}
	}
	return l
}

// rows is all lists that have each number from 0 on that is less than n, each once.
func rows(n int) [][]int { return arranged(upTo(0, n-1)) }

// wishLists is all wishes that a scribe of n can have.
func wishLists(n, scribe int) [][]int {
	var l [][]int
	for _, s := range subsets(n) {
		if !slices.Contains(s, scribe) {
			l = append(l, arranged(s)...)
		}
	}
	return l
}

// smallMarkets is all markets of at most three scribes, and some of four and five.
func smallMarkets() []api.Market {
	l := []api.Market{market(nil)}
	for _, a := range wishLists(2, 0) {
		for _, b := range wishLists(2, 1) {
			l = append(l, market(a, b))
		}
	}
	for _, a := range wishLists(3, 0) {
		for _, b := range wishLists(3, 1) {
			for _, c := range wishLists(3, 2) {
				l = append(l, market(a, b, c))
			}
		}
	}
	r := rand.New(rand.NewSource(3))
	for range 100 {
		l = append(l, someMarket(r, 4))
	}
	for range 15 {
		l = append(l, someMarket(r, 5))
	}
	return l
}

// someMarket is a market of n scribes.
func someMarket(r *rand.Rand, n int) api.Market {
	var m api.Market
	for scribe := range n {
		m.Wishes = append(m.Wishes, someWishes(r, n, scribe))
	}
	return m
}

func someWishes(r *rand.Rand, n, scribe int) []int {
	l := r.Perm(n)
	l = slices.DeleteFunc(l, func(other int) bool { return other == scribe })
	if r.Intn(3) == 0 {
		l = l[:r.Intn(len(l)+1)]
	}
	return l
}

// greatMarkets calls do with markets of all sizes, always the same ones.
func greatMarkets(n int, do func(r *rand.Rand, m api.Market)) {
	r := rand.New(rand.NewSource(int64(n)))
	for range n {
		do(r, someMarket(r, 1+r.Intn(api.MaxScribes)))
	}
}

// likes is whether a scribe likes a piece better than another one, by the words of the document.
func likes(m api.Market, scribe, piece, other int) bool {
	place := func(n int) int {
		if at := slices.Index(m.Wishes[scribe], n); at >= 0 {
			return at
		}
		if n == scribe {
			return len(m.Wishes[scribe])
		}
		return len(m.Wishes[scribe]) + 1
	}
	return place(piece) < place(other)
}

// object is whether a group objects to gets with own ones, which have each piece of the group once.
func object(m api.Market, gets, group, own []int) bool {
	better := false
	for i, scribe := range group {
		if likes(m, scribe, gets[scribe], own[i]) {
			return false
		}
		if likes(m, scribe, own[i], gets[scribe]) {
			better = true
		}
	}
	return better
}

// someObject is whether some group objects to gets.
func someObject(m api.Market, gets []int) bool {
	for _, group := range subsets(len(gets)) {
		for _, own := range arranged(group) {
			if object(m, gets, group, own) {
				return true
			}
		}
	}
	return false
}

// prove is whether rounds prove gets, which have each piece once.
func prove(m api.Market, gets, rounds []int) bool {
	for scribe, piece := range gets {
		if rounds[scribe] < 1 || rounds[scribe] > len(gets) || rounds[piece] != rounds[scribe] {
			return false
		}
		for other := range gets {
			if rounds[other] >= rounds[scribe] && likes(m, scribe, other, piece) {
				return false
			}
		}
	}
	return true
}

// dealOf is what Make tells of a market that has no error.
func dealOf(t *testing.T, m api.Market) api.Deal {
	t.Helper()
	d, e := hire.Make(m)
	wantErr(t, "Make", e, api.OK)
	if len(d.Gets) != len(m.Wishes) || len(d.Rounds) != len(m.Wishes) {
		t.Fatal("Make", m, d)
	}
	return d
}

// behindExchanges is a row behind exchanges.
func behindExchanges(row []int, l []api.Swop) []int {
	row = slices.Clone(row)
	for _, x := range l {
		row[x.A], row[x.B] = row[x.B], row[x.A]
	}
	return row
}

// loops is how many loops a row has.
func loops(row []int) int {
	n := 0
	for c := range row {
		least := c
		for at := row[c]; at != c; at = row[at] {
			least = min(least, at)
		}
		if least == c {
			n++
		}
	}
	return n
}

// someExchanges is n exchanges in a row of cases, at least two.
func someExchanges(r *rand.Rand, cases, n int) []api.Swop {
	var l []api.Swop
	for range n {
		a := r.Intn(cases)
		l = append(l, api.Swop{A: a, B: (a + 1 + r.Intn(cases-1)) % cases})
	}
	return l
}
