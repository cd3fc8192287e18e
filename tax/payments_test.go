package tax_test

import (
	"math/rand"
	"slices"
	"testing"

	"pecia/api"
	"pecia/tax"
)

// payments is payments, from triples of who pays, to whom, and coins.
func payments(n ...int) []api.Payment {
	var l []api.Payment
	for i := 0; i+2 < len(n); i += 3 {
		l = append(l, api.Payment{From: n[i], To: n[i+1], Coins: n[i+2]})
	}
	return l
}

// example is the balances of the chapter's examples.
func example() []int { return list(5, -3, -2, 4, -4) }

// partitions is all ways to put partners into groups, in the order of their first partners.
func partitions(partners []int) [][][]int {
	all := [][][]int{nil}
	for _, who := range partners {
		var longer [][][]int
		for _, groups := range all {
			for i := range groups {
				more := slices.Clone(groups)
				more[i] = append(slices.Clone(more[i]), who)
				longer = append(longer, more)
			}
			longer = append(longer, append(slices.Clone(groups), list(who)))
		}
		all = longer
	}
	return all
}

// areGroups is whether groups of partners are 0 together, each of them.
func areGroups(balances []int, groups [][]int) bool {
	return !slices.ContainsFunc(groups, func(group []int) bool {
		n := 0
		for _, who := range group {
			n += balances[who]
		}
		return n != 0
	})
}

// mostGroups is how many groups there can be, by trying all.
func mostGroups(balances []int) int {
	n := 0
	for _, groups := range partitions(notZero(balances)) {
		if areGroups(balances, groups) {
			n = max(n, len(groups))
		}
	}
	return n
}

// wantGroups is that groups are as they must be, and so many.
func wantGroups(t *testing.T, balances []int, n int) {
	t.Helper()
	groups, e := tax.Groups(balances)
	wantErr(t, balances, e, api.OK)
	var all []int
	for i, group := range groups {
		if len(group) == 0 || !slices.IsSorted(group) || i > 0 && groups[i-1][0] >= group[0] {
			t.Error("Groups: the order:", balances, groups)
		}
		all = append(all, group...)
	}
	slices.Sort(all)
	want(t, "Groups: each partner once", all, notZero(balances))
	if len(groups) != n || !areGroups(balances, groups) {
		t.Error("Groups:", balances, groups, "want", n)
	}
	wantFewest(t, balances, len(all)-n)
}

// wantFewest is that so many payments are needed, and settle.
func wantFewest(t *testing.T, balances []int, n int) {
	t.Helper()
	got, e := tax.Fewest(balances)
	wantErr(t, balances, e, api.OK)
	want(t, "Fewest", got, n)
	l, e := tax.Settle(balances)
	wantErr(t, balances, e, api.OK)
	if len(l) != n || !settles(balances, l) {
		t.Error("Settle:", balances, l, "want", n)
	}
	wantErr(t, "P7.14: CheckSettle of Settle", tax.CheckSettle(balances, l), api.OK)
	rest, e := tax.Pay(balances, l)
	wantErr(t, "P7.14: Pay of Settle", e, api.OK)
	want(t, "P7.14: Pay of Settle", rest, make([]int, len(balances)))
}

// isPossible is whether a payment is one, among so many partners.
func isPossible(p api.Payment, partners int) bool {
	return p.From != p.To && min(p.From, p.To) >= 0 && max(p.From, p.To) < partners && p.Coins >= 1 && p.Coins <= most
}

// settles is whether payments settle balances, by the words of the document.
func settles(balances []int, l []api.Payment) bool {
	rest := slices.Clone(balances)
	for _, p := range l {
		if !isPossible(p, len(balances)) {
			return false
		}
		rest[p.From] += p.Coins
		rest[p.To] -= p.Coins
	}
	return len(notZero(rest)) == 0
}

// TestGroups is of P7.8.
func TestGroups(t *testing.T) {
	groups, e := tax.Groups(example())
	wantErr(t, "the example", e, api.OK)
	want(t, "the example", groups, [][]int{{0, 1, 2}, {3, 4}})
	groups, e = tax.Groups(list(0, -4, 7, 0, 4, -7))
	wantErr(t, "two pairs", e, api.OK)
	want(t, "two pairs", groups, [][]int{{1, 4}, {2, 5}})
	wantGroups(t, example(), 2)
	wantGroups(t, nil, 0)
	wantGroups(t, list(0), 0)
	wantGroups(t, same(10, 0), 0)
	wantGroups(t, list(1, -1), 1)
	wantGroups(t, list(most, -most), 1)
	wantGroups(t, list(0, most, 0, -most, 0), 1)
	wantGroups(t, list(1, 1, -2), 1)
	wantGroups(t, list(1, 2, 3, -3, -2, -1), 3)
	wantGroups(t, list(1, 1, 1, -1, -1, -1), 3)
	wantGroups(t, list(3, 3, -2, -2, -2), 1)
	wantGroups(t, list(6, -1, -2, -3, 3, -3), 2)
	wantGroups(t, list(2, 2, -1, -1, -1, -1), 2)
	wantGroups(t, list(5, 4, 3, 2, 1, -1, -2, -3, -4, -5), 5)
	wantGroups(t, list(9, -1, -1, -1, -1, -1, -1, -1, -1, -1), 1)
	wantGroups(t, list(7, 7, 7, -3, -3, -3, -3, -3, -3, -3), 1)
	wantGroups(t, list(10, 5, 6, -7, -8, -6, 20, -20, 1, -1), 4)
	wantGroups(t, list(1, -2, 3, -4, 2, 5, -9, 7, -3, 0), 3)
	wantGroups(t, list(most, most, -most+1, -most, -1, 0), 2)
	wantGroups(t, list(most, most-2, -most+1, -most+1), 1)
	wantGroups(t, list(most, most, most, most, most, -most, -most, -most, -most, -most), 5)
	wantGroups(t, list(most-1, most-1, most-1, most-1, -most, -most, -most, -most, 2, 2), 2)
}

// TestBalanceErrors is of P7.8.
func TestBalanceErrors(t *testing.T) {
	type test struct {
		balances []int
		e        api.Errno
	}
	tests := []test{
		{same(11, 0), api.ErrLimit},
		{same(11, 1), api.ErrLimit},
		{append(same(10, 0), most+1), api.ErrLimit},
		{list(1), api.ErrArg},
		{list(-1), api.ErrArg},
		{list(1, -2), api.ErrArg},
		{list(5, -3, -2, 4, -3), api.ErrArg},
		{list(most+1, -most-1), api.ErrArg},
		{list(most, 1, -most-1), api.ErrArg},
		{list(most+1, -most, -1), api.ErrArg},
		{list(-1<<63, -1<<63), api.ErrArg}, // together 0 in 64 bits
		{list(1<<62, 1<<62, 1<<62, 1<<62), api.ErrArg},
		{list(1<<63-1, -1<<63+1), api.ErrArg},
		{list(1<<63-1, 1, -1<<63), api.ErrArg},
	}
	for _, n := range far() {
		if n != -1 {
			tests = append(tests, test{list(n, -n), api.ErrArg})
		}
		tests = append(tests, test{list(n), api.ErrArg}, test{list(0, n, 0), api.ErrArg})
	}
	for _, x := range tests {
		groups, e := tax.Groups(x.balances)
		check(t, x.balances, e, x.e, len(groups) > 0)
		n, e := tax.Fewest(x.balances)
		check(t, x.balances, e, x.e, n != 0)
		l, e := tax.Settle(x.balances)
		check(t, x.balances, e, x.e, len(l) > 0)
		for _, l := range [][]api.Payment{nil, payments(0, 1, 1), payments(0, 0, 0), same(81, api.Payment{})} {
			wantErr(t, x.balances, tax.CheckSettle(x.balances, l), x.e)
			rest, e := tax.Pay(x.balances, l)
			check(t, x.balances, e, x.e, len(rest) > 0)
		}
	}
}

// TestCheckSettle is of P7.8.
func TestCheckSettle(t *testing.T) {
	wantErr(t, "nobody", tax.CheckSettle(nil, nil), api.OK)
	wantErr(t, "nothing", tax.CheckSettle(list(0, 0), nil), api.OK)
	for what, x := range map[string]struct {
		l []api.Payment
		e api.Errno
	}{
		"three payments":           {payments(1, 0, 3, 2, 0, 2, 4, 3, 4), api.OK},
		"in another order":         {payments(4, 3, 4, 2, 0, 2, 1, 0, 3), api.OK},
		"through a third one":      {payments(1, 2, 3, 2, 0, 5, 4, 3, 4), api.OK},
		"who pays ahead of it":     {payments(2, 0, 5, 1, 2, 3, 4, 3, 4), api.OK},
		"through him who is owed":  {payments(0, 2, 3, 2, 0, 5, 4, 3, 4), api.ErrProof},
		"none":                     {nil, api.ErrProof},
		"too few":                  {payments(1, 0, 3, 2, 0, 2), api.ErrProof},
		"too few, but three":       {payments(1, 0, 3, 2, 0, 1, 2, 0, 1), api.ErrProof},
		"one too many":             {payments(1, 0, 3, 2, 0, 2, 4, 3, 3, 4, 3, 1), api.ErrProof},
		"around the groups":        {payments(1, 0, 3, 2, 3, 2, 4, 3, 2, 4, 0, 2), api.ErrProof},
		"there and back":           {payments(1, 0, 3, 2, 0, 2, 4, 3, 4, 0, 1, 1, 1, 0, 1), api.ErrProof},
		"a coin less":              {payments(1, 0, 3, 2, 0, 2, 4, 3, 3), api.ErrProof},
		"a coin more":              {payments(1, 0, 3, 2, 0, 3, 4, 3, 4), api.ErrProof},
		"the wrong way":            {payments(0, 1, 3, 0, 2, 2, 3, 4, 4), api.ErrProof},
		"a wrong one":              {payments(1, 0, 3, 2, 0, 2, 4, 3, 4, 0, 0, 1), api.ErrProof},
		"a wrong one for another":  {payments(1, 0, 3, 2, 0, 2, 3, 4, -4), api.ErrProof},
		"no coins":                 {payments(1, 0, 3, 2, 0, 2, 4, 3, 4, 1, 0, 0), api.ErrProof},
		"to himself":               {payments(1, 0, 3, 2, 0, 2, 0, 0, 4), api.ErrProof},
		"from nobody":              {payments(1, 0, 3, 2, 0, 2, 5, 3, 4), api.ErrProof},
		"to nobody":                {payments(1, 0, 3, 2, 0, 2, 4, -1, 4), api.ErrProof},
		"coins that go round":      {payments(1, 0, 3-1<<62, 1, 0, 1<<62, 4, 3, 4), api.ErrProof},
		"too many coins":           {payments(1, 0, most+1, 0, 1, most-2, 4, 3, 4), api.ErrProof},
		"most payments":            {same(80, api.Payment{From: 1, To: 0, Coins: 1}), api.ErrProof},
		"too many payments":        {same(81, api.Payment{From: 1, To: 0, Coins: 1}), api.ErrLimit},
		"too many wrong payments":  {make([]api.Payment, 81), api.ErrLimit},
		"just as many wrong ones":  {make([]api.Payment, 3), api.ErrProof},
		"most payments, all wrong": {make([]api.Payment, 80), api.ErrProof},
	} {
		wantErr(t, what, tax.CheckSettle(example(), x.l), x.e)
	}
	wantErr(t, "somebody pays nobody", tax.CheckSettle(nil, payments(0, 1, 1)), api.ErrProof)
	for _, n := range append(far(), 5) {
		wantErr(t, n, tax.CheckSettle(example(), payments(1, 0, 3, 2, 0, 2, n, 3, 4)), api.ErrProof)
		wantErr(t, n, tax.CheckSettle(example(), payments(1, 0, 3, 2, 0, 2, 4, n, 4)), api.ErrProof)
		wantErr(t, n, tax.CheckSettle(example(), payments(1, 0, 3, 2, 0, 2, 4, 3, n)), api.ErrProof)
	}
	great := list(most, most-2, -most+1, -most+1) // in between the third one owes nearly twice the most
	wantErr(t, "great balances", tax.CheckSettle(great, payments(3, 2, most-1, 2, 0, most, 2, 1, most-2)), api.OK)
	wantErr(t, "great balances", tax.CheckSettle(great, payments(2, 0, most, 2, 1, most-2, 3, 2, most-1)), api.OK)
	wantErr(t, "too great a payment", tax.CheckSettle(great, payments(3, 2, most-1, 2, 1, 2*most-2, 1, 0, most)), api.ErrProof)
}

// TestPay is of P7.8.
func TestPay(t *testing.T) {
	const high = most - 5
	for what, x := range map[string]struct {
		balances []int
		l        []api.Payment
		should   []int
		e        api.Errno
	}{
		"nobody":                   {nil, nil, nil, api.OK},
		"nothing":                  {example(), nil, example(), api.OK},
		"one":                      {example(), payments(1, 0, 3), list(2, 0, -2, 4, -4), api.OK},
		"the wrong way":            {example(), payments(0, 1, 3), list(8, -6, -2, 4, -4), api.OK},
		"all":                      {example(), payments(1, 0, 3, 2, 0, 2, 4, 3, 4), list(0, 0, 0, 0, 0), api.OK},
		"more than is owed":        {example(), payments(1, 0, 9), list(-4, 6, -2, 4, -4), api.OK},
		"there and back":           {list(0, 0), payments(0, 1, most, 1, 0, most, 0, 1, 1), list(1, -1), api.OK},
		"as much as can be":        {list(high, -high), payments(0, 1, 5), list(most, -most), api.OK},
		"from side to side":        {list(most, -most), payments(1, 0, most, 1, 0, most), list(-most, most), api.OK},
		"most payments":            {list(0, 0), same(80, api.Payment{From: 0, To: 1, Coins: 1}), list(80, -80), api.OK},
		"too many payments":        {list(0, 0), same(81, api.Payment{From: 0, To: 1, Coins: 1}), nil, api.ErrLimit},
		"too many wrong payments":  {list(0, 0), make([]api.Payment, 81), nil, api.ErrLimit},
		"a wrong one":              {list(0, 0), make([]api.Payment, 1), nil, api.ErrArg},
		"to himself":               {example(), payments(1, 0, 3, 1, 1, 1), nil, api.ErrArg},
		"from less than 0":         {example(), payments(-1, 0, 3), nil, api.ErrArg},
		"from nobody":              {example(), payments(5, 0, 3), nil, api.ErrArg},
		"to less than 0":           {example(), payments(0, -1, 3), nil, api.ErrArg},
		"to nobody":                {example(), payments(0, 5, 3), nil, api.ErrArg},
		"no coins":                 {example(), payments(0, 1, 0), nil, api.ErrArg},
		"less than no coins":       {example(), payments(0, 1, -1), nil, api.ErrArg},
		"too many coins":           {list(-most, most), payments(0, 1, most+1), nil, api.ErrArg},
		"nobody pays":              {nil, payments(0, 1, 1), nil, api.ErrArg},
		"one too great":            {list(most, -most+1, -1), payments(0, 2, 1), nil, api.ErrRange},
		"one too small":            {list(most-1, -most, 1), payments(2, 1, 1), nil, api.ErrRange},
		"too great in between":     {list(most, -most), payments(0, 1, 1, 1, 0, 1), nil, api.ErrRange},
		"too small in between":     {list(most-1, -most, 1), payments(2, 1, 1, 1, 2, 1), nil, api.ErrRange},
		"not, in another order":    {list(most, -most), payments(1, 0, 1, 0, 1, 1), list(most, -most), api.OK},
		"too great, then wrong":    {list(most, -most), payments(0, 1, 1, 0, 1, 0), nil, api.ErrArg},
		"wrong, then too great":    {list(most, -most), payments(0, 0, 1, 0, 1, 1), nil, api.ErrArg},
		"far too great":            {list(most, -most), same(80, api.Payment{From: 0, To: 1, Coins: most}), nil, api.ErrRange},
		"far too great for others": {list(0, most, -most, 0), payments(0, 3, most, 0, 3, 1), nil, api.ErrRange},
	} {
		rest, e := tax.Pay(x.balances, x.l)
		check(t, what, e, x.e, x.e != api.OK && len(rest) > 0)
		want(t, what, rest, x.should)
	}
	for _, n := range far() {
		for _, l := range [][]api.Payment{payments(n, 1, 1), payments(0, n, 1), payments(0, 1, n)} {
			if n < 0 || n > 1 {
				rest, e := tax.Pay(list(0, 0, 0), l)
				check(t, l, e, api.ErrArg, len(rest) > 0)
			}
		}
	}
}

// TestAllGroups is of P7.8 and P7.15: no groups are more, by trying all of them.
func TestAllGroups(t *testing.T) {
	r := rand.New(rand.NewSource(9))
	seen := map[int]int{}
	for i := range 600 {
		balances := someBalances(r, r.Intn(9), list(2, 5, 20, 1000, most/8)[i%5])
		n := mostGroups(balances)
		wantGroups(t, balances, n)
		seen[n]++
		fewest, others := len(notZero(balances))-n, turned(balances)
		wantFewest(t, others, fewest)
		if len(notZero(balances)) > 0 && (n == 0 || 2*fewest < len(notZero(balances))) {
			t.Error("P7.15:", balances, fewest)
		}
	}
	if seen[0] < 20 || seen[1] < 20 || seen[2] < 20 || seen[3] < 20 {
		t.Error("too few balances of a sort:", seen)
	}
}

// TestWholeGroups is of P7.8: where balances are made of groups, there are at least as many.
func TestWholeGroups(t *testing.T) {
	r := rand.New(rand.NewSource(10))
	for range 500 {
		var balances []int
		made := 0
		for len(balances) < 8 {
			group := someBalances(r, 2+r.Intn(9-len(balances)), list(4, most/16)[r.Intn(2)])
			balances = append(balances, group...)
			made += min(1, len(notZero(group)))
		}
		r.Shuffle(len(balances), func(i, j int) { balances[i], balances[j] = balances[j], balances[i] })
		groups, e := tax.Groups(balances)
		wantErr(t, balances, e, api.OK)
		if len(groups) < made {
			t.Error("Groups:", balances, groups, "want at least", made)
		}
		wantGroups(t, balances, len(groups))
	}
}

// need is how many payments settle small balances, by trying all payments; more than n are not tried.
func need(balances []int, n int) int {
	if len(notZero(balances)) == 0 {
		return 0
	}
	best := n + 1
	if n == 0 {
		return best
	}
	for from := range balances {
		for to := range balances {
			for coins := 1; from != to && coins <= 6; coins++ {
				rest := slices.Clone(balances)
				rest[from] += coins
				rest[to] -= coins
				best = min(best, 1+need(rest, min(n-1, best-1)))
			}
		}
	}
	return best
}

// TestNoFewerPayments is of P7.8 and P7.14: no fewer payments settle, by trying all of them.
func TestNoFewerPayments(t *testing.T) {
	r := rand.New(rand.NewSource(11))
	for range 60 {
		balances := someBalances(r, 2+r.Intn(3), 2)
		n, e := tax.Fewest(balances)
		wantErr(t, balances, e, api.OK)
		if got := need(balances, 3); got != n {
			t.Error("Fewest:", balances, n, "want", got)
		}
	}
}

// TestAccepted is of P7.8 and P7.14: of any payments those are accepted that settle, and are as few as can be.
func TestAccepted(t *testing.T) {
	r := rand.New(rand.NewSource(12))
	seen := map[api.Errno]int{}
	for range 4000 {
		balances := someBalances(r, 2+r.Intn(4), 3)
		var l []api.Payment
		rest := slices.Clone(balances)
		for len(notZero(rest)) > 0 && r.Intn(20) > 0 {
			open := notZero(rest)
			p := api.Payment{From: open[r.Intn(len(open))], To: open[r.Intn(len(open))]}
			p.Coins = max(rest[p.To], -rest[p.From]*r.Intn(2), 1)
			rest[p.From] += p.Coins
			rest[p.To] -= p.Coins
			l = append(l, p)
			if len(l) == 12 {
				break
			}
		}
		r.Shuffle(len(l), func(i, j int) { l[i], l[j] = l[j], l[i] })
		should := api.ErrProof
		if n, _ := tax.Fewest(balances); len(l) == n && settles(balances, l) {
			should = api.OK
		}
		seen[should]++
		if e := tax.CheckSettle(balances, l); e != should {
			t.Error("CheckSettle:", balances, l, e, "want", should)
		}
	}
	if seen[api.OK] < 300 || seen[api.ErrProof] < 300 {
		t.Error("too few payments of a sort:", seen)
	}
}

// TestBetweenGroups is of P7.15: each group is settled by itself, with one payment fewer than it has partners.
func TestBetweenGroups(t *testing.T) {
	r := rand.New(rand.NewSource(13))
	for range 200 {
		balances := someBalances(r, 1+r.Intn(10), 6)
		groups, e := tax.Groups(balances)
		wantErr(t, balances, e, api.OK)
		for _, group := range groups {
			alone := make([]int, len(balances))
			for _, who := range group {
				alone[who] = balances[who]
			}
			wantFewest(t, alone, len(group)-1)
		}
	}
}

// TestLedgersAreSettled is of P7.14.
func TestLedgersAreSettled(t *testing.T) {
	r := rand.New(rand.NewSource(14))
	for range 200 {
		accounts := 2 + r.Intn(9)
		all := balances(t, someLedger(r, accounts, 30, list(2, 100, most/80)[r.Intn(3)]), accounts, 29)
		l, e := tax.Settle(all)
		wantErr(t, all, e, api.OK)
		rest, e := tax.Pay(all, l)
		wantErr(t, all, e, api.OK)
		want(t, "P7.14: a ledger that is paid", rest, make([]int, accounts))
	}
}
