package tax_test

import (
	"math/rand"
	"slices"
	"testing"

	"pecia/api"
	"pecia/tax"
)

func post(id, day, from, to, coins int) api.Post {
	return api.Post{ID: id, Day: day, From: from, To: to, Coins: coins}
}

func posts(l ...api.Post) []api.Post { return l }

// manyPosts is n posts with the IDs from 1 on.
func manyPosts(n int) []api.Post {
	var l []api.Post
	for i := range n {
		l = append(l, post(i+1, i, 0, 1, 1))
	}
	return l
}

// TestCheckPosts is of P7.7.
func TestCheckPosts(t *testing.T) {
	one := post(1, 5, 0, 1, 3)
	for what, x := range map[string]struct {
		l        []api.Post
		accounts int
		e        api.Errno
	}{
		"none":                        {nil, 1, api.OK},
		"none, most accounts":         {nil, 10, api.OK},
		"one":                         {posts(one), 2, api.OK},
		"least numbers":               {posts(post(1, 0, 0, 1, 1)), 2, api.OK},
		"greatest numbers":            {posts(post(1<<40, 730, 9, 8, most)), 10, api.OK},
		"most posts":                  {manyPosts(80), 2, api.OK},
		"alike but for the ID":        {posts(one, post(2, 5, 0, 1, 3)), 2, api.OK},
		"in no order":                 {posts(post(3, 9, 0, 1, 3), post(1, 7, 1, 0, 2), post(2, 8, 1, 0, 2)), 2, api.OK},
		"no accounts":                 {nil, 0, api.ErrArg},
		"less than no accounts":       {nil, -1, api.ErrArg},
		"too many accounts":           {nil, 11, api.ErrArg},
		"too many posts":              {manyPosts(81), 2, api.ErrLimit},
		"too many wrong posts":        {make([]api.Post, 81), 2, api.ErrLimit},
		"accounts, then too many":     {manyPosts(81), 0, api.ErrArg},
		"accounts, then a wrong post": {make([]api.Post, 1), 11, api.ErrArg},
		"one account":                 {posts(one), 1, api.ErrArg},
		"the ID 0":                    {posts(post(0, 5, 0, 1, 3)), 2, api.ErrArg},
		"a great ID":                  {posts(post(1<<40+1, 5, 0, 1, 3)), 2, api.ErrArg},
		"a day less than 0":           {posts(post(1, -1, 0, 1, 3)), 2, api.ErrArg},
		"a great day":                 {posts(post(1, 731, 0, 1, 3)), 2, api.ErrArg},
		"from less than 0":            {posts(post(1, 5, -1, 1, 3)), 2, api.ErrArg},
		"from no account":             {posts(post(1, 5, 2, 1, 3)), 2, api.ErrArg},
		"to less than 0":              {posts(post(1, 5, 0, -1, 3)), 2, api.ErrArg},
		"to no account":               {posts(post(1, 5, 0, 2, 3)), 2, api.ErrArg},
		"to itself":                   {posts(post(1, 5, 1, 1, 3)), 2, api.ErrArg},
		"no coins":                    {posts(post(1, 5, 0, 1, 0)), 2, api.ErrArg},
		"less than no coins":          {posts(post(1, 5, 0, 1, -3)), 2, api.ErrArg},
		"too many coins":              {posts(post(1, 5, 0, 1, most+1)), 2, api.ErrArg},
		"the same ID":                 {posts(one, post(2, 5, 0, 1, 3), post(1, 6, 1, 0, 4)), 2, api.ErrTwice},
		"the same post":               {posts(one, one), 2, api.ErrTwice},
		"a wrong one that is twice":   {posts(one, post(1, 5, 0, 0, 3)), 2, api.ErrArg},
		"twice, then a wrong one":     {posts(one, one, post(2, 5, 0, 2, 3)), 2, api.ErrTwice},
		"a wrong one, then twice":     {posts(one, post(2, 5, 0, 2, 3), one), 2, api.ErrArg},
		"a wrong one behind many":     {append(manyPosts(79), post(80, 5, 0, 1, 0)), 2, api.ErrArg},
		"the same ID behind many":     {append(manyPosts(79), post(1, 5, 0, 1, 1)), 2, api.ErrTwice},
	} {
		wantErr(t, what, tax.CheckPosts(x.l, x.accounts), x.e)
		if x.e == api.OK {
			continue
		}
		for _, n := range list(-1, 0, 1, 731) {
			l, e := tax.Balances(x.l, x.accounts, n)
			check(t, "Balances: "+what, e, x.e, len(l) > 0)
			least, day, e := tax.Lowest(x.l, x.accounts, n)
			check(t, "Lowest: "+what, e, x.e, least != 0 || day != 0)
		}
	}
	for _, n := range far() {
		for _, p := range posts(post(n, 5, 0, 1, 3), post(1, n, 0, 1, 3), post(1, 5, n, 1, 3), post(1, 5, 0, n, 3), post(1, 5, 0, 1, n)) {
			wantErr(t, p, tax.CheckPosts(posts(p), 2), api.ErrArg)
		}
		wantErr(t, n, tax.CheckPosts(nil, n), api.ErrArg)
	}
}

func balances(t *testing.T, l []api.Post, accounts, day int) []int {
	t.Helper()
	all, e := tax.Balances(l, accounts, day)
	wantErr(t, "Balances", e, api.OK)
	return all
}

func wantLowest(t *testing.T, l []api.Post, accounts, account, least, day int) {
	t.Helper()
	n, first, e := tax.Lowest(l, accounts, account)
	wantErr(t, "Lowest", e, api.OK)
	want(t, "Lowest", list(n, first), list(least, day))
}

// TestBalances is of P7.7.
func TestBalances(t *testing.T) {
	l := posts(post(9, 20, 1, 0, 4), post(2, 10, 0, 1, 5), post(4, 10, 0, 2, 1), post(3, 730, 2, 1, 7))
	for _, x := range []struct {
		day    int
		should []int
	}{
		{0, list(0, 0, 0, 0)}, {9, list(0, 0, 0, 0)}, {10, list(-6, 5, 1, 0)}, {19, list(-6, 5, 1, 0)},
		{20, list(-2, 1, 1, 0)}, {729, list(-2, 1, 1, 0)}, {730, list(-2, 8, -6, 0)},
	} {
		want(t, x.day, balances(t, l, 4, x.day), x.should)
	}
	want(t, "the first day", balances(t, posts(post(1, 0, 1, 0, 3)), 2, 0), list(3, -3))
	want(t, "no posts", balances(t, nil, 3, 0), list(0, 0, 0))
	want(t, "one account", balances(t, nil, 1, 730), list(0))
	var all []api.Post
	for i := range 80 {
		all = append(all, post(i+1, i, 9, 0, most))
	}
	want(t, "most coins", balances(t, all, 10, 730), list(80*most, 0, 0, 0, 0, 0, 0, 0, 0, -80*most))
	for _, n := range append(far(), 731) {
		got, e := tax.Balances(l, 4, n)
		check(t, n, e, api.ErrArg, len(got) > 0)
	}
}

// TestLowest is of P7.7.
func TestLowest(t *testing.T) {
	l := posts(post(9, 20, 1, 0, 4), post(2, 10, 0, 1, 5), post(4, 10, 0, 2, 1), post(3, 730, 2, 1, 7), post(5, 30, 0, 1, 4))
	wantLowest(t, l, 4, 0, -6, 10)
	wantLowest(t, l, 4, 1, 0, 0)
	wantLowest(t, l, 4, 2, -6, 730)
	wantLowest(t, l, 4, 3, 0, 0)
	wantLowest(t, nil, 1, 0, 0, 0)
	wantLowest(t, posts(post(1, 0, 0, 1, 3)), 2, 0, -3, 0)
	wantLowest(t, posts(post(1, 0, 0, 1, 3)), 2, 1, 3, 0)                                            // it is never less
	wantLowest(t, posts(post(1, 0, 0, 1, 3), post(2, 1, 1, 0, 1)), 2, 1, 2, 1)                       // nor nothing
	wantLowest(t, posts(post(1, 3, 0, 1, 3), post(2, 3, 1, 0, 3)), 2, 1, 0, 0)                       // less in between, but not behind the day
	wantLowest(t, posts(post(1, 3, 1, 0, 3), post(2, 3, 0, 1, 9), post(3, 4, 1, 0, 7)), 2, 1, -1, 4) // the order within a day does not matter
	wantLowest(t, posts(post(1, 9, 1, 0, 3), post(2, 2, 1, 0, 3), post(3, 5, 0, 1, 3)), 2, 1, -3, 2)
	var all []api.Post
	for i := range 80 {
		all = append(all, post(i+1, i, 9, 0, most))
	}
	wantLowest(t, all, 10, 9, -80*most, 79)
	wantLowest(t, all, 10, 0, most, 0)
	for _, n := range append(far(), 4) {
		least, day, e := tax.Lowest(l, 4, n)
		check(t, n, e, api.ErrArg, least != 0 || day != 0)
	}
}

// someLedger is any posts of some accounts, up to a day.
func someLedger(r *rand.Rand, accounts, days, coins int) []api.Post {
	var l []api.Post
	for _, id := range r.Perm(99)[:r.Intn(81)] {
		from := r.Intn(accounts)
		to := (from + 1 + r.Intn(accounts-1)) % accounts
		l = append(l, post(id+1, r.Intn(days), from, to, 1+r.Intn(coins)))
	}
	return l
}

// behind is what is on an account behind a day, by the words of the document.
func behind(l []api.Post, account, day int) int {
	n := 0
	for _, p := range l {
		switch {
		case p.Day <= day && p.To == account:
			n += p.Coins
		case p.Day <= day && p.From == account:
			n -= p.Coins
		}
	}
	return n
}

// TestLedgers is of P7.7 and P7.13.
func TestLedgers(t *testing.T) {
	r := rand.New(rand.NewSource(8))
	for range 200 {
		accounts, days := 2+r.Intn(9), 1+r.Intn(api.MaxDay+1)
		l := someLedger(r, accounts, days, list(3, 1000, most)[r.Intn(3)])
		mixed, other := slices.Clone(l), slices.Clone(l)
		r.Shuffle(len(l), func(i, j int) { mixed[i], mixed[j] = mixed[j], mixed[i] })
		for i, p := range l {
			other[i].From, other[i].To = p.To, p.From
		}
		for _, day := range list(0, r.Intn(days), days-1, api.MaxDay) {
			all := balances(t, l, accounts, day)
			for account := range accounts {
				want(t, "Balances", all[account], behind(l, account, day))
			}
			want(t, "P7.13: together", sum(all), 0)
			want(t, "P7.13: posts that are turned", balances(t, other, accounts, day), turned(all))
			want(t, "P7.13: the order of posts", balances(t, mixed, accounts, day), all)
		}
		for account := range accounts {
			least, first := behind(l, account, 0), 0
			for day := range api.MaxDay + 1 {
				if n := behind(l, account, day); n < least {
					least, first = n, day
				}
			}
			wantLowest(t, l, accounts, account, least, first)
			wantLowest(t, mixed, accounts, account, least, first)
		}
	}
}
