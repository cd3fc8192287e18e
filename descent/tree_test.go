package descent_test

import (
	"cmp"
	"math"
	"math/rand"
	"slices"
	"testing"

	"pecia/api"
	"pecia/descent"
)

// branch is a branch above which another one is, with slips and copies.
func branch(above int, slips, copies []int) api.Branch {
	return api.Branch{Above: above, Slips: slips, Copies: copies}
}

func tree(branches ...api.Branch) api.Tree { return api.Tree{Branches: branches} }

// exampleTree is the tree of the chapter's examples.
func exampleTree() api.Tree {
	return tree(branch(-1, nil, nil), branch(0, list(10), list(1)), branch(1, list(10, 20), list(2)),
		branch(2, list(10, 20, 30), list(3)), branch(2, list(10, 20, 50), list(5)), branch(1, list(10, 40), list(4)))
}

// A named branch is one with the slips of the branch above it in place of an index.
type named struct {
	above, slips, copies []int
}

// namedOf is the branches of a tree, by their slips: the same for trees that differ in the order of their branches only.
func namedOf(t api.Tree) []named {
	var l []named
	for i, b := range t.Branches {
		n := named{slips: append(list(), b.Slips...), copies: append(list(), b.Copies...)}
		if i > 0 {
			n.above = append(list(), t.Branches[b.Above].Slips...)
		}
		l = append(l, n)
	}
	slices.SortFunc(l, func(a, b named) int { return slices.Compare(a.slips, b.slips) })
	return l
}

func sameNamed(a, b named) bool {
	return slices.Equal(a.above, b.above) && slices.Equal(a.slips, b.slips) && slices.Equal(a.copies, b.copies)
}

// wantTree is that Tree returns a tree, but for the order of its branches.
func wantTree(t *testing.T, s api.Stock, should api.Tree, lost int) {
	t.Helper()
	x, e := descent.Tree(s)
	wantErr(t, "Tree", e, api.OK)
	if !isRight(s, x) {
		t.Fatal("Tree is not right", s, x)
	}
	if !slices.EqualFunc(namedOf(x), namedOf(should), sameNamed) {
		t.Error("Tree", s, x, "want", should)
	}
	wantErr(t, "CheckTree of Tree", descent.CheckTree(s, x), api.OK)
	wantErr(t, "CheckTree", descent.CheckTree(s, should), api.OK)
	n, e := descent.Lost(s)
	wantErr(t, "Lost", e, api.OK)
	want(t, "Lost", n, lost)
}

// TestTree is of P5.3.
func TestTree(t *testing.T) {
	root := branch(-1, nil, nil)
	wantTree(t, example(), exampleTree(), 0) // the chapter's examples
	wantTree(t, less(example(), 1, 2), tree(root, branch(0, list(10), nil), branch(1, list(10, 20), nil),
		branch(2, list(10, 20, 30), list(3)), branch(2, list(10, 20, 50), list(5)), branch(1, list(10, 40), list(4))), 2)
	wantTree(t, api.Stock{}, tree(root), 0) // the first branch is no lost copy
	wantTree(t, stock(made(4, 0, 0)), tree(branch(-1, nil, list(4))), 0)
	wantTree(t, stock(made(4, 0, 0), made(2, 0, 0)), tree(branch(-1, nil, list(2, 4))), 0)
	wantTree(t, stock(mended(made(4, 0, 0), 7)), tree(branch(-1, nil, list(4))), 0)
	wantTree(t, stock(made(4, 0, 0, 7, 8, 9)), tree(root, branch(0, list(7, 8, 9), list(4))), 0)
	wantTree(t, stock(made(4, 0, 0, 7, 8, 9), made(3, 0, 0), made(1, 0, 0, 7, 8, 9)), tree(branch(-1, nil, list(3)), branch(0, list(7, 8, 9), list(1, 4))), 0)
	wantTree(t, stock(made(1, 0, 0, 5), made(2, 0, 0, 6)), tree(root, branch(0, list(5), list(1)), branch(0, list(6), list(2))), 0)
	wantTree(t, stock(made(1, 0, 0, 1, 5), made(2, 0, 0, 5)), tree(root, branch(0, list(5), list(2)), branch(1, list(1, 5), list(1))), 0)
	wantTree(t, stock(made(1, 0, 0, 1, 5), made(2, 0, 0, 3, 5)), tree(root, branch(0, list(5), nil), branch(1, list(1, 5), list(1)), branch(1, list(3, 5), list(2))), 1)
	// When copies were made does not matter here, nor does where from.
	wantTree(t, stock(from(made(1, 9, 9, 5), 8), made(2, 9, 9, 5, 6), from(made(3, 0, 0, 5, 6, 7), 0)), tree(root, branch(0, list(5), list(1)), branch(1, list(5, 6), list(2)), branch(2, list(5, 6, 7), list(3))), 0)
	// Some slips that always stand together make one branch.
	wantTree(t, stock(made(1, 0, 0, 1, 2, 3), made(2, 0, 0, 2, 3, 4), made(3, 0, 0, 9)), tree(root, branch(0, list(2, 3), nil), branch(1, list(1, 2, 3), list(1)), branch(1, list(2, 3, 4), list(2)), branch(0, list(9), list(3))), 1)
	// Three lost ones, one above the other.
	wantTree(t, stock(made(1, 0, 0, 1, 2, 3), made(2, 0, 0, 1, 2, 3, 4), made(3, 0, 0, 1, 2, 5), made(4, 0, 0, 1, 6)), tree(root,
		branch(0, list(1), nil), branch(1, list(1, 6), list(4)), branch(1, list(1, 2), nil), branch(3, list(1, 2, 5), list(3)), branch(3, list(1, 2, 3), list(1)), branch(5, list(1, 2, 3, 4), list(2))), 2)
}

// TestNoTree is of P5.3.
func TestNoTree(t *testing.T) {
	for _, s := range []api.Stock{crossed(), pairs(1), pairs(5), stock(append(pairs(1).Copies, made(9, 0, 0, 5))...)} {
		x, e := descent.Tree(s)
		check(t, "Tree", e, api.ErrClash, len(x.Branches) > 0)
		n, e := descent.Lost(s)
		check(t, "Lost", e, api.ErrClash, n != 0)
	}
}

// greatTree is a stock with as many branches as there can be: of as many copies, each with a slip of its own, with slips that the first one has, the first two, and so on up to all.
func greatTree() api.Stock {
	var s api.Stock
	for i := range api.MaxCopies {
		slips := append(upTo(i+1, api.MaxCopies), 100+i)
		s.Copies = append(s.Copies, made(i+1, 0, 0, slips...))
	}
	return s
}

// TestGreatTree is of P5.3, for as many branches as there can be.
func TestGreatTree(t *testing.T) {
	s := greatTree()
	x, e := descent.Tree(s)
	if e != api.OK || len(x.Branches) != 2*api.MaxCopies || !isRight(s, x) {
		t.Error("Tree of most", len(x.Branches), e)
	}
	wantErr(t, "CheckTree of most", descent.CheckTree(s, x), api.OK)
	n, e := descent.Lost(s)
	if e != api.OK || n != api.MaxCopies-1 {
		t.Error("Lost of most", n, e)
	}
	x.Branches = append(x.Branches, x.Branches[1])
	wantErr(t, "CheckTree of too many", descent.CheckTree(s, x), api.ErrLimit)
	full := fullStock()
	x, e = descent.Tree(full)
	if e != api.OK || len(x.Branches) != 1+3+api.MaxCopies || !isRight(full, x) {
		t.Error("Tree of a full stock", len(x.Branches), e)
	}
	wantErr(t, "CheckTree of a full stock", descent.CheckTree(full, x), api.OK)
	all := tree(branch(-1, nil, nil), branch(0, upTo(1, api.MaxMarks), upTo(1, api.MaxCopies)))
	var same api.Stock
	for i := range api.MaxCopies {
		same.Copies = append(same.Copies, made(api.MaxCopies-i, 0, 0, upTo(1, api.MaxMarks)...))
	}
	wantTree(t, same, all, 0)
}

// TestCheckTreeLimits is of P5.3: ErrLimit comes ahead of ErrProof.
func TestCheckTreeLimits(t *testing.T) {
	root, wrong := branch(-1, nil, nil), branch(7, list(3, 3), list(9))
	repeated := func(n int, b api.Branch) api.Tree {
		return tree(append([]api.Branch{root}, slices.Repeat([]api.Branch{b}, n)...)...)
	}
	for what, x := range map[string]struct {
		t api.Tree
		e api.Errno
	}{
		"as many branches":        {repeated(2*api.MaxCopies-1, wrong), api.ErrProof},
		"too many branches":       {repeated(2*api.MaxCopies, wrong), api.ErrLimit},
		"as many slips":           {tree(root, branch(0, upTo(1, api.MaxMarks), nil)), api.ErrProof},
		"too many slips":          {tree(root, branch(0, upTo(1, api.MaxMarks+1), nil)), api.ErrLimit},
		"too many slips at first": {tree(branch(-1, upTo(1, api.MaxMarks+1), nil)), api.ErrLimit},
		"too many wrong slips":    {tree(root, wrong, branch(0, make([]int, api.MaxMarks+1), nil)), api.ErrLimit},
		"as many copies":          {tree(root, branch(0, nil, upTo(1, api.MaxCopies))), api.ErrProof},
		"too many copies":         {tree(root, wrong, branch(0, nil, upTo(1, api.MaxCopies+1))), api.ErrLimit},
		"too many wrong copies":   {tree(branch(5, nil, make([]int, api.MaxCopies+1))), api.ErrLimit},
	} {
		for _, s := range []api.Stock{{}, example(), crossed(), orphaned()} {
			wantErr(t, "CheckTree: "+what, descent.CheckTree(s, x.t), x.e)
		}
	}
}

// wrongTrees is trees that are not right for the example: each sentence of what a right tree is, broken.
func wrongTrees() map[string]api.Tree {
	changed := func(change func(b []api.Branch)) api.Tree {
		x := exampleTree()
		change(x.Branches)
		return x
	}
	return map[string]api.Tree{
		"no branch":              {},
		"one branch":             tree(branch(-1, nil, nil)),
		"first above 0":          changed(func(b []api.Branch) { b[0].Above = 0 }),
		"first above -2":         changed(func(b []api.Branch) { b[0].Above = -2 }),
		"first above a branch":   changed(func(b []api.Branch) { b[0].Above = 1 }),
		"first with a slip":      changed(func(b []api.Branch) { b[0].Slips = list(10) }),
		"first with a copy":      changed(func(b []api.Branch) { b[0].Copies = list(1) }),
		"above -1":               changed(func(b []api.Branch) { b[1].Above = -1 }),
		"above itself":           changed(func(b []api.Branch) { b[3].Above = 3 }),
		"above behind":           changed(func(b []api.Branch) { b[3].Above = 4 }),
		"above too great":        changed(func(b []api.Branch) { b[3].Above = 6 }),
		"above greatest":         changed(func(b []api.Branch) { b[3].Above = math.MaxInt }),
		"above least":            changed(func(b []api.Branch) { b[3].Above = math.MinInt }),
		"above not the last one": changed(func(b []api.Branch) { b[3].Above = 1 }),
		"above the first one":    changed(func(b []api.Branch) { b[5].Above = 0 }),
		"above of other slips":   changed(func(b []api.Branch) { b[5].Above = 2 }),
		"more above":             changed(func(b []api.Branch) { b[4].Above = 3 }),
		"falling slips":          changed(func(b []api.Branch) { b[2].Slips = list(20, 10) }),
		"a slip twice":           changed(func(b []api.Branch) { b[2].Slips = list(10, 20, 20) }),
		"a slip less":            changed(func(b []api.Branch) { b[3].Slips = list(10, 30) }),
		"no slip more":           changed(func(b []api.Branch) { b[3].Slips = list(10, 20) }),
		"a slip more":            changed(func(b []api.Branch) { b[3].Slips = list(10, 20, 30, 60) }),
		"another slip":           changed(func(b []api.Branch) { b[5].Slips = list(10, 60) }),
		"a copy less":            changed(func(b []api.Branch) { b[3].Copies = nil }),
		"a lost one less":        changed(func(b []api.Branch) { b[1].Copies = nil }),
		"a copy more":            changed(func(b []api.Branch) { b[3].Copies = list(3, 6) }),
		"a copy twice":           changed(func(b []api.Branch) { b[3].Copies = list(3, 3) }),
		"a copy of another one":  changed(func(b []api.Branch) { b[3].Copies = list(3, 5) }),
		"another copy":           changed(func(b []api.Branch) { b[3].Copies = list(7) }),
		"copies exchanged":       changed(func(b []api.Branch) { b[3].Copies, b[4].Copies = list(5), list(3) }),
		"a branch twice":         tree(append(exampleTree().Branches, branch(1, list(10, 40), list(4)))...),
		"a branch twice, lost":   tree(append(exampleTree().Branches, branch(1, list(10, 40), nil))...),
		"the first one twice":    tree(append(exampleTree().Branches, branch(0, nil, nil))...),
		"a lost one too many":    tree(append(exampleTree().Branches, branch(1, list(10, 60), nil))...),
		"a branch less":          tree(exampleTree().Branches[:5]...),
		"the other order":        tree(branch(1, list(10), list(1)), branch(-1, nil, nil)),
		"a lost one with one branch": tree(branch(-1, nil, nil), branch(0, list(10), list(1)), branch(1, list(10, 20), list(2)),
			branch(2, list(10, 20, 30), list(3)), branch(2, list(10, 20, 50), list(5)), branch(1, list(10, 39), nil), branch(5, list(10, 39, 40), list(4))),
	}
}

// TestCheckTree is of P5.3.
func TestCheckTree(t *testing.T) {
	s := example()
	wantErr(t, "CheckTree of the example", descent.CheckTree(s, exampleTree()), api.OK)
	for what, x := range wrongTrees() {
		if isRight(s, x) {
			t.Fatal("a right tree:", what)
		}
		wantErr(t, "CheckTree: "+what, descent.CheckTree(s, x), api.ErrProof)
	}
}

// TestCheckOtherTrees is of P5.3, for stocks for which a tree lacks one thing only.
func TestCheckOtherTrees(t *testing.T) {
	for what, x := range map[string]struct {
		s api.Stock
		t api.Tree
	}{
		"a lost one with one branch": {stock(made(1, 0, 0, 1, 2)), tree(branch(-1, nil, nil), branch(0, list(1), nil), branch(1, list(1, 2), list(1)))},
		"a slip arises twice":        {stock(made(1, 0, 0, 1, 2), made(2, 0, 0, 1, 3)), tree(branch(-1, nil, nil), branch(0, list(1, 2), list(1)), branch(0, list(1, 3), list(2)))},
		"slips cross":                {pairs(1), tree(branch(-1, nil, nil), branch(0, list(1), list(2)), branch(1, list(1, 2), list(1)), branch(0, list(2), list(3)))},
		"falling copies":             {stock(made(1, 0, 0), made(2, 0, 0)), tree(branch(-1, nil, list(2, 1)))},
		"one of two copies":          {stock(made(1, 0, 0), made(2, 0, 0)), tree(branch(-1, nil, list(1)))},
		"no copy of the first text":  {stock(made(1, 0, 0)), tree(branch(-1, nil, nil))},
		"a copy that is not there":   {api.Stock{}, tree(branch(-1, nil, list(1)))},
		"the slip 0":                 {stock(made(1, 0, 0, 1)), tree(branch(-1, nil, nil), branch(0, list(0, 1), list(1)))},
		"falling slips, lost":        {stock(made(1, 0, 0, 1, 2, 3), made(2, 0, 0, 1, 2, 4)), tree(branch(-1, nil, nil), branch(0, list(2, 1), nil), branch(1, list(1, 2, 3), list(1)), branch(1, list(1, 2, 4), list(2)))},
		"no slip more, lost":         {stock(made(1, 0, 0, 1, 2), made(2, 0, 0, 1, 3), made(3, 0, 0, 1, 4)), tree(branch(-1, nil, nil), branch(0, list(1), nil), branch(1, list(1), nil), branch(1, list(1, 2), list(1)), branch(2, list(1, 3), list(2)), branch(2, list(1, 4), list(3)))},
		"no slips, lost":             {stock(made(1, 0, 0, 1), made(2, 0, 0, 2)), tree(branch(-1, nil, nil), branch(0, nil, nil), branch(1, list(1), list(1)), branch(1, list(2), list(2)))},
		"another slip, lost":         {api.Stock{}, tree(branch(-1, nil, nil), branch(0, list(1), nil))},
	} {
		wantErr(t, "CheckTree: "+what, descent.CheckTree(x.s, x.t), api.ErrProof)
	}
}

// TestOrdersOfBranches is of P5.3: each order will do in which each branch stands behind the one above it.
func TestOrdersOfBranches(t *testing.T) {
	r := rand.New(rand.NewSource(5))
	right, wrong := 0, 0
	for range 400 {
		x := exampleTree()
		places := append(list(0), r.Perm(5)...) // of the branches
		for i := range places[1:] {
			places[i+1]++
		}
		shuffled := tree(slices.Clone(x.Branches)...)
		for i, b := range x.Branches {
			if i > 0 {
				b.Above = places[b.Above]
			}
			shuffled.Branches[places[i]] = b
		}
		should := api.ErrProof
		if isRight(example(), shuffled) {
			should = api.OK
			right++
		} else {
			wrong++
		}
		wantErr(t, "CheckTree of another order", descent.CheckTree(example(), shuffled), should)
	}
	if right < 20 || wrong < 20 {
		t.Error("too few of a sort:", right, wrong)
	}
}

// families is all trees whose branches have the slips of some of all sets of slips from 1 to 3, and any branch above them whose slips they have; their copies are those of a stock.
func families(s api.Stock) []api.Tree {
	sets := [][]int{{1}, {2}, {3}, {1, 2}, {1, 3}, {2, 3}, {1, 2, 3}}
	copiesOf := func(slips []int) []int {
		return slices.DeleteFunc(idsOf(s), func(id int) bool { return !slices.Equal(copyOf(s, id).Slips, slips) })
	}
	all := []api.Tree{tree(branch(-1, nil, copiesOf(nil)))}
	for _, slips := range sets {
		more := slices.Clone(all) // those without this branch
		for _, x := range all {
			for i, above := range x.Branches {
				if isPart(above.Slips, slips) {
					y := cloneTree(x)
					y.Branches = append(y.Branches, branch(i, slips, copiesOf(slips)))
					more = append(more, y)
				}
			}
		}
		all = more
	}
	return all
}

// TestOneTree is of P5.3 and P5.11, by trying all trees of few slips: CheckTree accepts just one if no slips cross each other, and else none.
func TestOneTree(t *testing.T) {
	r := rand.New(rand.NewSource(11))
	some, none := 0, 0
	for range 300 {
		s := someStock(r, r.Intn(6), 3)
		var accepted []api.Tree
		for _, x := range families(s) {
			e := descent.CheckTree(s, x)
			if e == api.OK {
				accepted = append(accepted, x)
			}
			if (e == api.OK) != isRight(s, x) || e != api.OK && e != api.ErrProof {
				t.Error("CheckTree", s, x, e)
			}
		}
		x, e := descent.Tree(s)
		if anyCross(s) {
			none++
			check(t, "P5.11: Tree", e, api.ErrClash, len(x.Branches) > 0)
			want(t, "P5.11: trees of slips that cross", len(accepted), 0)
			continue
		}
		some++
		wantErr(t, "P5.11: Tree", e, api.OK)
		if len(accepted) != 1 || !slices.EqualFunc(namedOf(x), namedOf(accepted[0]), sameNamed) {
			t.Error("P5.11: not just one tree:", s, x, accepted)
		}
	}
	if some < 30 || none < 30 {
		t.Error("too few of a sort:", some, none)
	}
}

// spoilt is a tree in which one thing is another one, perhaps.
func spoilt(r *rand.Rand, t api.Tree) api.Tree {
	t = cloneTree(t)
	i := r.Intn(len(t.Branches))
	b := &t.Branches[i]
	switch r.Intn(9) {
	case 0:
		b.Above = r.Intn(len(t.Branches)+2) - 1
	case 1:
		b.Slips = append(b.Slips, 1+r.Intn(6))
	case 2:
		b.Slips = slices.Compact(slices.Sorted(slices.Values(append(b.Slips, 1+r.Intn(6)))))
	case 3:
		b.Slips = slices.DeleteFunc(b.Slips, func(int) bool { return r.Intn(2) == 0 })
	case 4:
		b.Copies = append(b.Copies, 1+r.Intn(99))
	case 5:
		b.Copies = slices.DeleteFunc(b.Copies, func(int) bool { return r.Intn(2) == 0 })
	case 6:
		t.Branches = append(t.Branches, t.Branches[i])
	case 7:
		t.Branches = slices.Delete(t.Branches, i, i+1)
	case 8:
		j := r.Intn(len(t.Branches))
		t.Branches[i].Copies, t.Branches[j].Copies = t.Branches[j].Copies, t.Branches[i].Copies
	}
	return t
}

// TestCheckTreeAgrees is of P5.3, for trees that are nearly right.
func TestCheckTreeAgrees(t *testing.T) {
	right, wrong := 0, 0
	smallStocks(6, 2000, func(r *rand.Rand, s api.Stock) {
		x, e := descent.Tree(s)
		if e != api.OK {
			return
		}
		for range 10 {
			y := spoilt(r, x)
			should := api.ErrProof
			if isRight(s, y) {
				should = api.OK
				right++
			} else {
				wrong++
			}
			if e := descent.CheckTree(s, y); e != should {
				t.Error("CheckTree", s, y, e, should)
			}
		}
	})
	if right < 300 || wrong < 3000 {
		t.Error("too few of a sort:", right, wrong)
	}
}

// TestTreesOfHistories is of P5.3, P5.11 and P5.17: without mended slips there is a tree, in which copies of one history stand below those from which they were made.
func TestTreesOfHistories(t *testing.T) {
	trueHistories(12, 150, false, func(r *rand.Rand, h history) {
		s := less(h.stock, someOf(r, idsOf(h.stock), 3)...) // some are lost
		_, is, e := descent.Cross(s)
		if e != api.OK || is {
			t.Fatal("P5.17: Cross", s, is, e)
		}
		x, e := descent.Tree(s)
		wantErr(t, "P5.11: Tree", e, api.OK)
		if !isRight(s, x) {
			t.Fatal("P5.11: Tree is not right", s, x)
		}
		wantErr(t, "P5.11: CheckTree of Tree", descent.CheckTree(s, x), api.OK)
		lost := 0
		for i, b := range x.Branches {
			if i > 0 && len(b.Copies) == 0 {
				lost++
			}
		}
		n, e := descent.Lost(s)
		wantErr(t, "Lost", e, api.OK)
		want(t, "Lost", n, lost)
		if len(s.Copies) == len(h.parents) {
			want(t, "nothing lost", lost, 0)
		}
		wantSameTree(t, r, s, x)
	})
}

// wantSameTree is that CheckTree accepts a tree in another order, with as many branches.
func wantSameTree(t *testing.T, r *rand.Rand, s api.Stock, x api.Tree) {
	t.Helper()
	key := map[int]int{}
	for i := range x.Branches {
		key[i] = r.Intn(99)
	}
	order := upTo(0, len(x.Branches)-1)
	slices.SortStableFunc(order, func(i, j int) int {
		return cmp.Or(cmp.Compare(len(x.Branches[i].Slips), len(x.Branches[j].Slips)), cmp.Compare(key[i], key[j]))
	})
	var y api.Tree
	for _, i := range order {
		b := x.Branches[i]
		if b.Above >= 0 {
			b.Above = slices.Index(order, b.Above)
		}
		y.Branches = append(y.Branches, b)
	}
	wantErr(t, "P5.11: CheckTree of another order", descent.CheckTree(s, y), api.OK)
}
