package order_test

import (
	"math"
	"math/rand"
	"reflect"
	"slices"
	"testing"

	"pecia/api"
	"pecia/order"
)

const lastBy = 1 << 20

func list(n ...int) []int { return n }

func rows(l ...[]int) [][]int { return l }

// same is a list of n times the same number.
func same(n, x int) []int { return slices.Repeat(list(x), n) }

// far is numbers that are beyond all bounds.
func far() []int { return list(math.MinInt, math.MinInt+1, -1<<60, 1<<60, math.MaxInt-1, math.MaxInt) }

func stint(runner, piece int) api.Stint { return api.Stint{Runner: runner, Piece: piece} }

// path is the stints of scribes and pieces in turn.
func path(n ...int) []api.Stint {
	var l []api.Stint
	for i := 0; i < len(n); i += 2 {
		l = append(l, stint(n[i], n[i+1]))
	}
	return l
}

func runner(id, arrives int, takes ...int) api.Runner {
	return api.Runner{ID: id, Arrives: arrives, Takes: takes}
}

func orderOf(copies []int, l ...api.Runner) api.Order { return api.Order{Copies: copies, Runners: l} }

// example is the order of the chapter's examples.
func example() api.Order {
	return orderOf(list(1, 2, 1), runner(1, 0, 3, 4, 2), runner(2, 1, 2, 5, 3), runner(3, 2, 4, 3, 1))
}

// two is the order with two pieces of the chapter's examples.
func two() api.Order {
	return orderOf(list(1, 1), runner(1, 0, 3, 6), runner(2, 0, 5, 2), runner(3, 0, 1, 2))
}

// none is an order of so many pieces of two copies each, without scribes.
func none(pieces int) api.Order { return orderOf(same(pieces, 2)) }

// great is an order with as many pieces and scribes as there can be, all of whom take as long as can be.
func great(copies, arrives int) api.Order {
	o := orderOf(same(15, copies))
	for n := range 20 {
		o.Runners = append(o.Runners, runner(n+1, arrives, same(15, 60)...))
	}
	return o
}

// other is an order without any memory in common with it.
func other(o api.Order) api.Order {
	o.Copies, o.Runners = slices.Clone(o.Copies), slices.Clone(o.Runners)
	for n, r := range o.Runners {
		o.Runners[n].Takes = slices.Clone(r.Takes)
	}
	return o
}

// withCopies is an order with other numbers of copies.
func withCopies(o api.Order, copies ...int) api.Order {
	o.Copies = copies
	return o
}

// withPiece is an order with another number of copies of a piece.
func withPiece(o api.Order, piece, copies int) api.Order {
	o = other(o)
	o.Copies[piece] = copies
	return o
}

// stints is all stints of an order, by scribe, then by piece.
func stints(o api.Order) []api.Stint {
	var l []api.Stint
	for n := range o.Runners {
		for j := range o.Copies {
			l = append(l, stint(n, j))
		}
	}
	return l
}

// before is the stints that must have ended when a stint begins, by the words of the document.
func before(o api.Order, s api.Stint) []api.Stint {
	var l []api.Stint
	if s.Piece != 0 {
		l = append(l, stint(s.Runner, s.Piece-1))
	}
	if s.Runner >= o.Copies[s.Piece] {
		l = append(l, stint(s.Runner-o.Copies[s.Piece], s.Piece))
	}
	return l
}

func takes(o api.Order, s api.Stint) int { return o.Runners[s.Runner].Takes[s.Piece] }

// days is the days on which stints begin, by scribe and piece.
type days [][]int

func (d days) of(s api.Stint) int { return d[s.Runner][s.Piece] }

// ready is whether a stint that has not begun can begin on a day.
func (d days) ready(o api.Order, s api.Stint, day int) bool {
	if d.of(s) != -1 || day < o.Runners[s.Runner].Arrives {
		return false
	}
	for _, b := range before(o, s) {
		if d.of(b) == -1 || d.of(b)+takes(o, b) > day {
			return false
		}
	}
	return true
}

// runs goes through the days: each stint begins on the first one on which all that it has to wait for has ended, and which is not ahead of its least one.
func runs(o api.Order, least func(api.Stint) int) days {
	d := days{}
	for range o.Runners {
		d = append(d, same(len(o.Copies), -1))
	}
	for day, left := 0, len(stints(o)); left > 0; day++ {
		for _, s := range stints(o) {
			if d.ready(o, s, day) && day >= least(s) {
				d[s.Runner][s.Piece] = day
				left--
			}
		}
	}
	return d
}

// times is the days of beginning, by going through the days.
func times(o api.Order) days { return runs(o, func(api.Stint) int { return 0 }) }

// endBy is the day on which the last stint ends, by the days on which the stints begin; 0, if there are none.
func endBy(o api.Order, d days) int {
	last := 0
	for _, s := range stints(o) {
		last = max(last, d.of(s)+takes(o, s))
	}
	return last
}

func end(o api.Order) int { return endBy(o, times(o)) }

// ample is the day on which the scribes end if none waits.
func ample(o api.Order) int {
	last := 0
	for _, r := range o.Runners {
		last = max(last, r.Arrives+sum(r.Takes))
	}
	return last
}

func sum(l []int) int {
	n := 0
	for _, x := range l {
		n += x
	}
	return n
}

// underWay is whether a stint is under way on a day.
func underWay(o api.Order, d days, s api.Stint, day int) bool {
	return d.of(s) <= day && day <= d.of(s)+takes(o, s)-1
}

// chosen is the stints of which something is so.
func chosen(o api.Order, so func(api.Stint) bool) []api.Stint {
	return slices.DeleteFunc(stints(o), func(s api.Stint) bool { return !so(s) })
}

func isOrder(o api.Order) bool { return len(o.Copies) > 0 || len(o.Runners) > 0 }

func wantErr(t *testing.T, what any, got, want api.Errno) {
	t.Helper()
	if got != want {
		t.Errorf("%v: error %d, want %d", what, got, want)
	}
}

// check is that there is an error, and with it nothing else.
func check(t *testing.T, what any, got, want api.Errno, more bool) {
	t.Helper()
	wantErr(t, what, got, want)
	if more {
		t.Error(what, "returns something with an error")
	}
}

// want compares results with what they should be; an empty slice is the same whether it is nil or not.
func want(t *testing.T, what, got, should any) {
	t.Helper()
	a, b := reflect.ValueOf(got), reflect.ValueOf(should)
	if a.Kind() == reflect.Slice && a.Len() == 0 && b.Len() == 0 {
		return
	}
	if !reflect.DeepEqual(got, should) {
		t.Errorf("%v: %v, want %v", what, got, should)
	}
}

func wantOrder(t *testing.T, what any, got, should api.Order) {
	t.Helper()
	alike := func(a, b api.Runner) bool {
		return a.ID == b.ID && a.Arrives == b.Arrives && slices.Equal(a.Takes, b.Takes)
	}
	if !slices.Equal(got.Copies, should.Copies) || !slices.EqualFunc(got.Runners, should.Runners, alike) {
		t.Errorf("%v: %v, want %v", what, got, should)
	}
}

// endOf is what End returns.
func endOf(t *testing.T, o api.Order) int {
	t.Helper()
	n, e := order.End(o)
	wantErr(t, "End", e, api.OK)
	return n
}

// timesOf is what Times returns.
func timesOf(t *testing.T, o api.Order) days {
	t.Helper()
	d, e := order.Times(o)
	wantErr(t, "Times", e, api.OK)
	return d
}

// sizes is how great orders can be: so many pieces, scribes, copies and days at most.
type sizes struct{ pieces, runners, copies, takes, arrives int }

// some is any order of these sizes, with at least one piece, and with IDs in any order.
func (z sizes) some(r *rand.Rand) api.Order {
	o := api.Order{}
	for range 1 + r.Intn(z.pieces) {
		o.Copies = append(o.Copies, 1+r.Intn(z.copies))
	}
	for _, id := range r.Perm(99)[:r.Intn(z.runners+1)] {
		o.Runners = append(o.Runners, z.someRunner(r, id+1, len(o.Copies)))
	}
	return o
}

func (z sizes) someRunner(r *rand.Rand, id, pieces int) api.Runner {
	x := runner(id, r.Intn(z.arrives+1))
	for range pieces {
		x.Takes = append(x.Takes, 1+r.Intn(z.takes))
	}
	return x
}

var small = sizes{pieces: 4, runners: 6, copies: 3, takes: 6, arrives: 9}

// visitOrders goes through n orders of some sizes.
func (z sizes) visitOrders(seed int64, n int, visit func(r *rand.Rand, o api.Order)) {
	r := rand.New(rand.NewSource(seed))
	for range n {
		visit(r, z.some(r))
	}
}

// smallOrders goes through n small orders; greatOrders through n of all sizes.
func smallOrders(seed int64, n int, visit func(r *rand.Rand, o api.Order)) {
	small.visitOrders(seed, n, visit)
}

func greatOrders(seed int64, n int, visit func(r *rand.Rand, o api.Order)) {
	sizes{pieces: 15, runners: 20, copies: 5, takes: 60, arrives: 730}.visitOrders(seed, n/2, visit)
	sizes{pieces: 15, runners: 20, copies: 20, takes: 60, arrives: 5}.visitOrders(seed+1, n/2, visit)
}

// someStint is any stint of an order that has scribes.
func someStint(r *rand.Rand, o api.Order) api.Stint {
	return stint(r.Intn(len(o.Runners)), r.Intn(len(o.Copies)))
}

// noStints is stints that an order does not have.
func noStints(o api.Order) []api.Stint {
	n, j := len(o.Runners), len(o.Copies)
	l := path(n, 0, -1, 0, 0, j, 0, -1, n, j, -1, -1, n-1, j, n, j-1)
	for _, x := range far() {
		l = append(l, stint(x, 0), stint(0, x), stint(x, x))
	}
	return l
}

// outside is numbers that no index up to n - 1 has.
func outside(n int) []int { return append(far(), -1, n, n+1) }
