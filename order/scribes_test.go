package order_test

import (
	"math/rand"
	"slices"
	"testing"

	"pecia/api"
	"pecia/order"
)

// divisor is the greatest number by which both numbers can be divided.
func divisor(a, b int) int {
	n := a
	for a%n != 0 || b%n != 0 {
		n--
	}
	return n
}

// rate is the greatest quotient of the days of a piece and its copies, and its first piece.
func rate(o api.Order, n int) (api.Ratio, int) {
	days := o.Runners[n].Takes
	for j := range o.Copies {
		least := false
		for k := range o.Copies {
			least = least || days[j]*o.Copies[k] < days[k]*o.Copies[j]
		}
		if d := divisor(days[j], o.Copies[j]); !least {
			return api.Ratio{Num: days[j] / d, Den: o.Copies[j] / d}, j
		}
	}
	return api.Ratio{}, -1
}

func wantRate(t *testing.T, o api.Order, n int, should api.Ratio, at int) {
	t.Helper()
	got, piece, e := order.Rate(o, n)
	wantErr(t, "Rate", e, api.OK)
	want(t, "Rate", got, should)
	want(t, "Rate: the piece", piece, at)
}

// TestRate is of P8.9.
func TestRate(t *testing.T) {
	wantRate(t, example(), 0, api.Ratio{Num: 3, Den: 1}, 0)
	wantRate(t, example(), 1, api.Ratio{Num: 3, Den: 1}, 2)
	wantRate(t, orderOf(list(2, 4, 2), runner(1, 0, 3, 7, 4)), 0, api.Ratio{Num: 2, Den: 1}, 2)
	wantRate(t, orderOf(list(4, 2, 6), runner(1, 0, 6, 3, 9)), 0, api.Ratio{Num: 3, Den: 2}, 0) // all alike: the first one
	wantRate(t, orderOf(list(5, 2, 6), runner(1, 0, 6, 3, 9)), 0, api.Ratio{Num: 3, Den: 2}, 1)
	wantRate(t, orderOf(list(20, 20), runner(1, 0, 1, 1)), 0, api.Ratio{Num: 1, Den: 20}, 0)
	wantRate(t, orderOf(list(20, 1), runner(1, 0, 60, 60)), 0, api.Ratio{Num: 60, Den: 1}, 1)
	each := func(_ *rand.Rand, o api.Order) {
		for n := range o.Runners {
			should, at := rate(o, n)
			wantRate(t, o, n, should, at)
		}
	}
	smallOrders(27, 200, each)
	greatOrders(28, 40, each)
	for _, o := range []api.Order{example(), none(2)} {
		for _, n := range outside(len(o.Runners)) {
			got, piece, e := order.Rate(o, n)
			check(t, "Rate", e, api.ErrArg, piece != 0 || got != api.Ratio{})
			last, e := order.Alike(o, n, 1)
			check(t, "Alike", e, api.ErrArg, last != 0)
		}
	}
}

// alike is the order of so many scribes like one.
func alike(o api.Order, n, many int) api.Order {
	l := orderOf(o.Copies)
	for id := range many {
		l.Runners = append(l.Runners, runner(id+1, o.Runners[n].Arrives, o.Runners[n].Takes...))
	}
	return l
}

func alikeOf(t *testing.T, o api.Order, n, many int) int {
	t.Helper()
	last, e := order.Alike(o, n, many)
	wantErr(t, "Alike", e, api.OK)
	return last
}

// TestAlike is of P8.9.
func TestAlike(t *testing.T) {
	for many, should := range list(0, 9, 12, 15) {
		if many > 0 {
			want(t, "Alike", alikeOf(t, example(), 0, many), should)
		}
	}
	want(t, "Alike, the most", alikeOf(t, great(1, 730), 7, 20), 730+34*60)
	want(t, "Alike, who arrives", alikeOf(t, orderOf(list(1), runner(1, 0, 1), runner(2, 9, 2)), 1, 3), 15)
	for _, many := range append(far(), -1, 0, 21) {
		last, e := order.Alike(example(), 1, many)
		check(t, "Alike", e, api.ErrArg, last != 0)
	}
	each := func(r *rand.Rand, o api.Order) {
		if len(o.Runners) > 0 {
			n, many := r.Intn(len(o.Runners)), 1+r.Intn(api.MaxRunners)
			want(t, "Alike", alikeOf(t, o, n, many), end(alike(o, n, many)))
		}
	}
	smallOrders(29, 200, each)
	greatOrders(30, 10, each)
}

// packed is the most that can be packed: pieces, each one as often as one likes, that weigh no more than so much together.
func packed(o api.Order, n, most int) int {
	worth := make([]int, most+1)
	for weight := range worth {
		for j, copies := range o.Copies {
			if copies <= weight {
				worth[weight] = max(worth[weight], worth[weight-copies]+o.Runners[n].Takes[j])
			}
		}
	}
	return worth[most]
}

// TestPacked is of P8.17.
func TestPacked(t *testing.T) {
	each := func(_ *rand.Rand, o api.Order) {
		for n, r := range o.Runners {
			_, piece, e := order.Rate(o, n)
			wantErr(t, "Rate", e, api.OK)
			all := list(r.Arrives)
			for many := 1; many <= api.MaxRunners; many++ {
				last := alikeOf(t, o, n, many)
				want(t, "P8.17: what is packed", last, r.Arrives+sum(r.Takes)+packed(o, n, many-1))
				all = append(all, last)
				if many > 1 && last-all[many-1] > slices.Max(r.Takes) {
					t.Error("P8.17: one more is too much later:", o, n, many)
				}
				for k := 1; many-k*o.Copies[piece] >= 1; k++ {
					if last-all[many-k*o.Copies[piece]] < k*r.Takes[piece] {
						t.Error("P8.17: more are too early:", o, n, many, k)
					}
				}
			}
		}
	}
	smallOrders(31, 60, each)
	greatOrders(32, 10, each)
}

func wantJohnson(t *testing.T, o api.Order, last int, should ...int) {
	t.Helper()
	ids, n, e := order.Johnson(o)
	wantErr(t, "Johnson", e, api.OK)
	want(t, "Johnson", ids, should)
	want(t, "Johnson: the end", n, last)
}

func wantNoJohnson(t *testing.T, o api.Order) {
	t.Helper()
	ids, n, e := order.Johnson(o)
	check(t, "Johnson", e, api.ErrState, len(ids) > 0 || n != 0)
}

// TestJohnson is of P8.10.
func TestJohnson(t *testing.T) {
	wantJohnson(t, two(), 12, 3, 1, 2)
	wantJohnson(t, orderOf(list(1, 1)), 0)
	wantJohnson(t, orderOf(list(1, 1), runner(8, 730, 60, 60)), 850, 8)
	wantJohnson(t, orderOf(list(1, 1), runner(1, 4, 2, 3), runner(2, 4, 1, 9), runner(3, 4, 2, 5)), 22, 2, 1, 3)                        // alike by the first piece
	wantJohnson(t, orderOf(list(1, 1), runner(9, 0, 7, 3), runner(2, 0, 4, 3), runner(5, 0, 9, 4)), 23, 5, 9, 2)                        // alike by the second piece
	wantJohnson(t, orderOf(list(1, 1), runner(3, 0, 2, 2), runner(2, 0, 4, 4), runner(1, 0, 2, 3)), 12, 1, 2, 3)                        // as long for both: among the others
	wantJohnson(t, orderOf(list(1, 1), runner(4, 0, 5, 5), runner(3, 0, 5, 5), runner(1, 0, 5, 5), runner(2, 0, 5, 5)), 25, 4, 3, 1, 2) // all alike
	for _, copies := range [][]int{list(1, 2), list(2, 1), list(2, 2), list(20, 1)} {
		wantNoJohnson(t, withCopies(two(), copies...))
		wantNoJohnson(t, orderOf(copies))
	}
	wantNoJohnson(t, example())
	wantNoJohnson(t, orderOf(list(1)))
	wantNoJohnson(t, orderOf(list(1), runner(1, 0, 5)))
	wantNoJohnson(t, orderOf(list(1, 1, 1)))
	wantNoJohnson(t, orderOf(list(1, 1, 1), runner(1, 0, 5, 5, 5)))
	for n := range 3 {
		o := two()
		o.Runners[n].Arrives = 1
		wantNoJohnson(t, o)
	}
}

// arranged is an order with its scribes in another order.
func arranged(o api.Order, places []int) api.Order {
	l := orderOf(o.Copies)
	for _, n := range places {
		l.Runners = append(l.Runners, o.Runners[n])
	}
	return l
}

// arrangements is all orders of the numbers below n.
func arrangements(n int) [][]int {
	if n == 0 {
		return rows(nil)
	}
	var all [][]int
	for _, l := range arrangements(n - 1) {
		for at := range n {
			all = append(all, slices.Insert(slices.Clone(l), at, n-1))
		}
	}
	return all
}

// byRule is the places of the scribes by the words of the document: each one comes ahead of all that are left.
func byRule(o api.Order) []int {
	var l []int
	for len(l) < len(o.Runners) {
		next := -1
		for n := range o.Runners {
			if !slices.Contains(l, n) && (next < 0 || isAhead(o.Runners[n].Takes, o.Runners[next].Takes)) {
				next = n
			}
		}
		l = append(l, next)
	}
	return l
}

// isAhead is whether the days of a scribe place it ahead of another one, wherever they stand.
func isAhead(a, b []int) bool {
	if first, second := a[0] < a[1], b[0] < b[1]; first != second {
		return first
	} else if first {
		return a[0] < b[0]
	}
	return a[1] > b[1]
}

// twoPieces goes through n orders of two pieces of one copy each, with up to so many scribes who arrive on the same day.
func twoPieces(seed int64, n, runners, takes int, visit func(r *rand.Rand, o api.Order)) {
	r := rand.New(rand.NewSource(seed))
	for range n {
		o, day := orderOf(list(1, 1)), r.Intn(731)
		for _, id := range r.Perm(99)[:r.Intn(runners+1)] {
			o.Runners = append(o.Runners, runner(id+1, day, 1+r.Intn(takes), 1+r.Intn(takes)))
		}
		visit(r, o)
	}
}

// TestJohnsonIsEarliest is of P8.10 and P8.18: no order ends earlier, and no exchange of two neighbours makes it earlier.
func TestJohnsonIsEarliest(t *testing.T) {
	twoPieces(33, 80, 5, 5, func(_ *rand.Rand, o api.Order) {
		last := end(o)
		for _, places := range arrangements(len(o.Runners)) {
			last = min(last, end(arranged(o, places)))
		}
		_, n, e := order.Johnson(o)
		wantErr(t, "Johnson", e, api.OK)
		want(t, "Johnson: the earliest end", n, last)
	})
	twoPieces(34, 60, 20, 9, func(_ *rand.Rand, o api.Order) {
		best := arranged(o, byRule(o))
		var ids []int
		for _, r := range best.Runners {
			ids = append(ids, r.ID)
		}
		last := endOf(t, best)
		wantJohnson(t, o, last, ids...)
		for n := range len(ids) - 1 {
			swapped, e := order.Swap(best, n)
			wantErr(t, "Swap", e, api.OK)
			if endOf(t, swapped) < last {
				t.Error("P8.18:", o, n)
			}
		}
	})
}
