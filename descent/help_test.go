package descent_test

import (
	"math/rand"
	"reflect"
	"slices"
	"testing"

	"pecia/api"
	"pecia/descent"
)

// made is a copy with an ID that was made between two days, and has slips.
func made(id, lo, hi int, slips ...int) api.Witness {
	return api.Witness{ID: id, Slips: slips, Made: api.Span{Lo: lo, Hi: hi}}
}

// mended is a copy in which slips were mended, besides.
func mended(c api.Witness, slips ...int) api.Witness {
	c.Mended = slips
	return c
}

// from is a copy whose scribe had models at hand.
func from(c api.Witness, models ...int) api.Witness {
	c.Models = models
	return c
}

// known is a copy that came to be known on a day.
func known(c api.Witness, day int) api.Witness {
	c.Known = day
	return c
}

func stock(copies ...api.Witness) api.Stock { return api.Stock{Copies: copies} }

// example is the stock of the chapter's examples.
func example() api.Stock {
	return stock(made(1, 1, 3, 10), made(2, 5, 8, 10, 20), made(3, 10, 12, 10, 20, 30), made(4, 5, 9, 10, 40), mended(made(5, 14, 15, 10, 20, 50), 30))
}

// crossed is the stock of the examples with the copy by which slips cross each other.
func crossed() api.Stock { return stock(append(example().Copies, made(6, 20, 21, 20, 40))...) }

// orphaned is a stock of a right copy, and one that has no model.
func orphaned() api.Stock { return stock(made(1, 1, 1, 10), from(made(2, 2, 2, 10, 20), 7)) }

func kin(child, parent int) api.Kin { return api.Kin{Child: child, Parent: parent} }

// kins is kins from pairs of a child and a parent.
func kins(ids ...int) []api.Kin {
	var l []api.Kin
	for i := 0; i+1 < len(ids); i += 2 {
		l = append(l, kin(ids[i], ids[i+1]))
	}
	return l
}

func list(n ...int) []int { return n }

// upTo is the numbers from a first one to a last one.
func upTo(first, last int) []int {
	var l []int
	for n := first; n <= last; n++ {
		l = append(l, n)
	}
	return l
}

func idsOf(s api.Stock) []int {
	var l []int
	for _, c := range s.Copies {
		l = append(l, c.ID)
	}
	slices.Sort(l)
	return l
}

// copyOf is the copy with an ID; one without slips and ahead of all days for the first text.
func copyOf(s api.Stock, id int) api.Witness {
	for _, c := range s.Copies {
		if c.ID == id {
			return c
		}
	}
	return made(0, -1, -1)
}

// less is a stock without some copies.
func less(s api.Stock, ids ...int) api.Stock {
	var l []api.Witness
	for _, c := range s.Copies {
		if !slices.Contains(ids, c.ID) {
			l = append(l, c)
		}
	}
	return stock(l...)
}

func cloneStock(s api.Stock) api.Stock {
	s.Copies = slices.Clone(s.Copies)
	for i := range s.Copies {
		c := &s.Copies[i]
		c.Slips, c.Mended, c.Models = slices.Clone(c.Slips), slices.Clone(c.Mended), slices.Clone(c.Models)
	}
	return s
}

func cloneTree(t api.Tree) api.Tree {
	t.Branches = slices.Clone(t.Branches)
	for i := range t.Branches {
		b := &t.Branches[i]
		b.Slips, b.Copies = slices.Clone(b.Slips), slices.Clone(b.Copies)
	}
	return t
}

func wantErr(t *testing.T, what string, got, want api.Errno) {
	t.Helper()
	if got != want {
		t.Errorf("%s: error %d, want %d", what, got, want)
	}
}

// check is that there is an error, and with it nothing else.
func check(t *testing.T, what string, got, want api.Errno, more bool) {
	t.Helper()
	wantErr(t, what, got, want)
	if more {
		t.Error(what, "returns something with an error")
	}
}

// want compares results with what they should be; an empty slice is the same whether it is nil or not.
func want(t *testing.T, what string, got, should any) {
	t.Helper()
	a, b := reflect.ValueOf(got), reflect.ValueOf(should)
	if a.Kind() == reflect.Slice && a.Len() == 0 && b.Len() == 0 {
		return
	}
	if !reflect.DeepEqual(got, should) {
		t.Errorf("%s: %v, want %v", what, got, should)
	}
}

func wantStock(t *testing.T, what string, got, should api.Stock) {
	t.Helper()
	if !slices.EqualFunc(got.Copies, should.Copies, sameCopies) {
		t.Errorf("%s: %v, want %v", what, got, should)
	}
}

func sameCopies(a, b api.Witness) bool {
	return a.ID == b.ID && a.Known == b.Known && a.Made == b.Made &&
		slices.Equal(a.Slips, b.Slips) && slices.Equal(a.Mended, b.Mended) && slices.Equal(a.Models, b.Models)
}

func has(l []int, n int) bool { return slices.Contains(l, n) }

// isPart is whether all numbers of a list are among others.
func isPart(part, whole []int) bool {
	for _, n := range part {
		if !has(whole, n) {
			return false
		}
	}
	return true
}

func areIncreasing(l []int) bool {
	for i := 1; i < len(l); i++ {
		if l[i-1] >= l[i] {
			return false
		}
	}
	return true
}

// slipsOf is the slips of a stock, by the words of the document.
func slipsOf(s api.Stock) []int {
	var l []int
	for _, c := range s.Copies {
		l = append(l, c.Slips...)
	}
	slices.Sort(l)
	return slices.Compact(l)
}

// holdersOf is the copies that hold a slip.
func holdersOf(s api.Stock, slip int) []int {
	var l []int
	for _, c := range s.Copies {
		if has(c.Slips, slip) {
			l = append(l, c.ID)
		}
	}
	slices.Sort(l)
	return l
}

// crossings is all crossings of a stock, by the words of the document: by A, then B, then the copies.
func crossings(s api.Stock) []api.Crossing {
	var l []api.Crossing
	all := slipsOf(s)
	for _, a := range all {
		for _, b := range all {
			for _, both := range idsOf(s) {
				for _, one := range idsOf(s) {
					for _, other := range idsOf(s) {
						if x := (api.Crossing{A: a, B: b, Both: both, One: one, Other: other}); isCrossing(s, x) {
							l = append(l, x)
						}
					}
				}
			}
		}
	}
	return l
}

func isCrossing(s api.Stock, x api.Crossing) bool {
	both, one, other := copyOf(s, x.Both).Slips, copyOf(s, x.One).Slips, copyOf(s, x.Other).Slips
	return x.A != x.B && has(both, x.A) && has(both, x.B) && has(one, x.A) && !has(one, x.B) && has(other, x.B) && !has(other, x.A)
}

// anyCross is whether slips cross each other, but for some that are left out.
func anyCross(s api.Stock, out ...int) bool {
	all := slipsOf(s)
	for _, a := range all {
		for _, b := range all {
			var both, one, other bool
			for _, c := range s.Copies {
				both = both || has(c.Slips, a) && has(c.Slips, b)
				one = one || has(c.Slips, a) && !has(c.Slips, b)
				other = other || !has(c.Slips, a) && has(c.Slips, b)
			}
			if both && one && other && !has(out, a) && !has(out, b) {
				return true
			}
		}
	}
	return false
}

// isRight is whether a tree is right, by the words of the document.
func isRight(s api.Stock, t api.Tree) bool {
	stands, below, arises := map[int]int{}, map[int]int{}, map[int]int{}
	for i, b := range t.Branches {
		if i == 0 && (b.Above != -1 || len(b.Slips) > 0) || i > 0 && (b.Above < 0 || b.Above >= i) {
			return false
		}
		if !areIncreasing(b.Slips) || !areIncreasing(b.Copies) {
			return false
		}
		for _, c := range s.Copies {
			if slices.Equal(c.Slips, b.Slips) != has(b.Copies, c.ID) {
				return false
			}
		}
		for _, id := range b.Copies {
			if !has(idsOf(s), id) {
				return false
			}
			stands[id]++
		}
		if i == 0 {
			continue
		}
		above := t.Branches[b.Above].Slips
		if !isPart(above, b.Slips) || isPart(b.Slips, above) {
			return false
		}
		below[b.Above]++
		for _, slip := range b.Slips {
			if !has(above, slip) {
				arises[slip]++
			}
		}
	}
	for _, c := range s.Copies {
		if stands[c.ID] != 1 {
			return false
		}
	}
	for _, slip := range slipsOf(s) {
		if arises[slip] != 1 {
			return false
		}
	}
	for i, b := range t.Branches {
		if i > 0 && len(b.Copies) == 0 && below[i] < 2 {
			return false
		}
	}
	return len(t.Branches) > 0
}

// whyNot is why a copy, or the first text, cannot be the model of a copy, by the words of the document.
func whyNot(s api.Stock, k api.Kin) (int, int) {
	u, v := copyOf(s, k.Parent), copyOf(s, k.Child)
	if k.Parent != 0 {
		if k.Parent == k.Child {
			return 1, 0
		}
		if u.Made.Hi >= v.Made.Lo {
			return 2, 0
		}
		for _, slip := range u.Slips {
			if !has(v.Slips, slip) && !has(v.Mended, slip) {
				return 3, slip
			}
		}
	}
	if len(v.Models) > 0 && !has(v.Models, k.Parent) {
		return 4, 0
	}
	return 0, 0
}

// modelsOf is what can be the model of a copy.
func modelsOf(s api.Stock, child int) []int {
	var l []int
	for _, parent := range append([]int{0}, idsOf(s)...) {
		if why, _ := whyNot(s, kin(child, parent)); why == 0 {
			l = append(l, parent)
		}
	}
	return l
}

// arisen is the slips that arise in a copy that was made from another one.
func arisen(s api.Stock, k api.Kin) []int {
	var l []int
	for _, slip := range copyOf(s, k.Child).Slips {
		if !has(copyOf(s, k.Parent).Slips, slip) {
			l = append(l, slip)
		}
	}
	return l
}

// ariseIn is how many slips arise in a descent.
func ariseIn(s api.Stock, parents []int) int {
	n := 0
	for i, c := range s.Copies {
		n += len(arisen(s, kin(c.ID, parents[i])))
	}
	return n
}

// descents is all descents of a stock.
func descents(s api.Stock) [][]int {
	all := [][]int{nil}
	for _, c := range s.Copies {
		var longer [][]int
		for _, parents := range all {
			for _, parent := range modelsOf(s, c.ID) {
				longer = append(longer, append(slices.Clone(parents), parent))
			}
		}
		all = longer
	}
	return all
}

// bestOf is all best descents of a stock, and how many slips arise in one. There are none if a copy has no model.
func bestOf(s api.Stock) ([][]int, int) {
	var best [][]int
	least := 0
	for _, parents := range descents(s) {
		n := ariseIn(s, parents)
		if len(best) == 0 || n < least {
			best, least = nil, n
		}
		if n == least {
			best = append(best, parents)
		}
	}
	return best, least
}

// hasOrphan is whether a copy has no model.
func hasOrphan(s api.Stock) bool {
	return slices.ContainsFunc(idsOf(s), func(id int) bool { return len(modelsOf(s, id)) == 0 })
}

// someOf is some of a list of numbers, each with a chance of one in n, in increasing order.
func someOf(r *rand.Rand, l []int, n int) []int {
	var some []int
	for _, x := range l {
		if r.Intn(n) == 0 {
			some = append(some, x)
		}
	}
	slices.Sort(some)
	return some
}

// someStock is a stock of so many copies, in any order, with slips from 1 to a greatest one.
func someStock(r *rand.Rand, copies, greatest int) api.Stock {
	ids := r.Perm(99)[:copies]
	var s api.Stock
	for i := range ids {
		ids[i]++
		lo := r.Intn(20)
		c := known(made(ids[i], lo, lo+r.Intn(4), someOf(r, upTo(1, greatest), 2)...), r.Intn(9))
		c.Mended = someOf(r, slices.DeleteFunc(upTo(1, greatest), func(slip int) bool { return has(c.Slips, slip) }), 3)
		s.Copies = append(s.Copies, c)
	}
	for i := range s.Copies {
		c := &s.Copies[i]
		if r.Intn(3) == 0 {
			others := slices.DeleteFunc(append([]int{0, 0, 100}, ids...), func(id int) bool { return id == c.ID })
			c.Models = slices.Compact(someOf(r, others, 2))
		}
	}
	return s
}

// smallStocks goes through n stocks of at most five copies.
func smallStocks(seed int64, n int, visit func(r *rand.Rand, s api.Stock)) {
	r := rand.New(rand.NewSource(seed))
	for range n {
		visit(r, someStock(r, r.Intn(6), r.Intn(6)))
	}
}

// A history is how a stock was truly made: in its order, from these parents, with these new slips in each copy.
type history struct {
	stock   api.Stock
	parents []int
	own     [][]int
}

// trueHistory is copies that were made from each other, each with new slips that no other one has. Where it mends, some slips are mended in it.
func trueHistory(r *rand.Rand, copies int, mends bool) history {
	var h history
	ids := r.Perm(99)[:copies]
	slips := r.Perm(4 * api.MaxCopies)
	day := 0
	for i, id := range ids {
		parent := made(0, -1, -1)
		if at := r.Intn(i + 1); at > 0 {
			parent = h.stock.Copies[at-1]
		}
		c := made(id+1, day, day+r.Intn(5))
		day = c.Made.Hi + 1
		for _, slip := range parent.Slips {
			if mends && r.Intn(5) == 0 {
				c.Mended = append(c.Mended, slip)
			} else {
				c.Slips = append(c.Slips, slip)
			}
		}
		n := 1 + r.Intn(2)
		if len(c.Slips) > api.MaxMarks-2 {
			n = 1
		}
		var own []int
		for _, slip := range slips[:n] {
			own = append(own, slip+1)
		}
		slips = slips[n:]
		slices.Sort(own)
		c.Slips = append(c.Slips, own...)
		slices.Sort(c.Slips)
		if r.Intn(3) == 0 {
			c.Models = slices.Compact(slices.Sorted(slices.Values(append(someOf(r, idsOf(h.stock), 2), parent.ID))))
		}
		h.stock.Copies, h.parents, h.own = append(h.stock.Copies, c), append(h.parents, parent.ID), append(h.own, own)
	}
	return h
}

// shuffled is a history whose copies stand in another order.
func (h history) shuffled(r *rand.Rand) history {
	var l history
	for _, i := range r.Perm(len(h.parents)) {
		l.stock.Copies, l.parents, l.own = append(l.stock.Copies, h.stock.Copies[i]), append(l.parents, h.parents[i]), append(l.own, h.own[i])
	}
	return l
}

// trueHistories goes through n histories of all sizes.
func trueHistories(seed int64, n int, mends bool, visit func(r *rand.Rand, h history)) {
	r := rand.New(rand.NewSource(seed))
	for range n {
		visit(r, trueHistory(r, r.Intn(api.MaxCopies+1), mends).shuffled(r))
	}
}

// bestDescent is what Best returns.
func bestDescent(t *testing.T, s api.Stock) api.Descent {
	t.Helper()
	d, e := descent.Best(s)
	wantErr(t, "Best", e, api.OK)
	return d
}
