package hire_test

import (
	"math"
	"math/rand"
	"slices"
	"strconv"
	"testing"

	"pecia/api"
	"pecia/hire"
)

// A marketCase is a market, and its error.
type marketCase struct {
	m api.Market
	e api.Errno
}

// wrongMarkets is markets that have an error.
func wrongMarkets() map[string]marketCase {
	l := map[string]marketCase{
		"nothing":              {api.Market{}, api.ErrArg},
		"no scribes":           {market([][]int{}...), api.ErrArg},
		"too many scribes":     {market(make([][]int, api.MaxScribes+1)...), api.ErrLimit},
		"too many, and wrong":  {market(append(make([][]int, api.MaxScribes), []int{-1})...), api.ErrLimit},
		"its own piece":        {market([]int{1}, []int{0, 1}), api.ErrArg},
		"just its own piece":   {market([]int{0}), api.ErrArg},
		"a piece twice":        {market([]int{1, 2, 1}, nil, nil), api.ErrTwice},
		"a piece twice, last":  {market(nil, nil, []int{0, 1, 1}), api.ErrTwice},
		"twice, then wrong":    {market([]int{1, 1}, []int{2}), api.ErrTwice},
		"wrong, then twice":    {market([]int{2}, []int{0, 0}), api.ErrArg},
		"twice and wrong":      {market([]int{1, 1, 2}, nil), api.ErrArg},
		"twice and its own":    {market([]int{1, 1, 0}, nil), api.ErrArg},
		"its own twice":        {market([]int{0, 0}, nil), api.ErrArg},
		"too great for fewer":  {market([]int{1, 2}, []int{0}), api.ErrArg},
		"more wishes than all": {market([]int{1, 1, 1, 1}, nil), api.ErrTwice},
	}
	for what, n := range map[string]int{"piece -1": -1, "piece 4": 4, "least piece": math.MinInt, "greatest piece": math.MaxInt} {
		for scribe := range 4 {
			m := exampleMarket()
			m.Wishes[scribe][0] = n
			l[what+" of "+strconv.Itoa(scribe)] = marketCase{m, api.ErrArg}
		}
	}
	return l
}

// ring is a market of n scribes each of whom would have the piece of the next one.
func ring(n int) api.Market {
	var m api.Market
	for scribe := range n {
		m.Wishes = append(m.Wishes, []int{(scribe + 1) % n})
	}
	return m
}

// stairs is a market of n scribes each of whom would have the pieces of all before it.
func stairs(n int) api.Market {
	var m api.Market
	for scribe := range n {
		m.Wishes = append(m.Wishes, upTo(0, scribe-1))
	}
	return m
}

// TestCheckMarket is of P4.5.
func TestCheckMarket(t *testing.T) {
	for what, m := range map[string]api.Market{
		"example":        exampleMarket(),
		"one scribe":     market(nil),
		"no wishes":      market(nil, []int{}, nil),
		"all wishes":     market([]int{2, 1}, []int{0, 2}, []int{1, 0}),
		"most scribes":   ring(api.MaxScribes),
		"most wishes":    stairs(api.MaxScribes),
		"no wishes most": market(make([][]int, api.MaxScribes)...),
	} {
		wantErr(t, what, hire.CheckMarket(m), api.OK)
	}
	for what, x := range wrongMarkets() {
		wantErr(t, what, hire.CheckMarket(x.m), x.e)
	}
}

// A marketCall is a function with a market, and gets: its error, and whether there is anything else.
type marketCall func(m api.Market, gets []int) (api.Errno, bool)

// getsCalls is the functions with a market and gets.
func getsCalls() map[string]marketCall {
	return map[string]marketCall{
		"Better": func(m api.Market, gets []int) (api.Errno, bool) {
			is, e := hire.Better(m, gets, gets)
			return e, is
		},
		"Better than right ones": func(m api.Market, gets []int) (api.Errno, bool) {
			is, e := hire.Better(m, gets, []int{0, 1, 2, 3})
			return e, is
		},
		"Better by right ones": func(m api.Market, gets []int) (api.Errno, bool) {
			is, e := hire.Better(m, []int{1, 0, 3, 2}, gets)
			return e, is
		},
		"Objects": func(m api.Market, gets []int) (api.Errno, bool) {
			group, own, is, e := hire.Objects(m, gets)
			return e, len(group)+len(own) > 0 || is
		},
		"CheckObjects": func(m api.Market, gets []int) (api.Errno, bool) {
			return hire.CheckObjects(m, gets, []int{0, 1}, []int{1, 0}), false
		},
		"CheckObjects of nothing": func(m api.Market, gets []int) (api.Errno, bool) {
			return hire.CheckObjects(m, gets, nil, nil), false
		},
	}
}

// otherCalls is the functions with a market that return no error of gets.
func otherCalls() map[string]marketCall {
	return map[string]marketCall{
		"Make": func(m api.Market, gets []int) (api.Errno, bool) {
			d, e := hire.Make(m)
			return e, !zeroDeal(d)
		},
		"CheckDeal": func(m api.Market, gets []int) (api.Errno, bool) {
			return hire.CheckDeal(m, api.Deal{Gets: gets, Rounds: gets}), false
		},
		"Told": func(m api.Market, gets []int) (api.Errno, bool) {
			l, e := hire.Told(m, 0, nil)
			return e, len(l.Wishes) > 0
		},
		"Told by nobody": func(m api.Market, gets []int) (api.Errno, bool) {
			l, e := hire.Told(m, -1, gets)
			return e, len(l.Wishes) > 0
		},
	}
}

// wrongGets is gets that are not those of a deal of four scribes.
func wrongGets() map[string][]int {
	return map[string][]int{
		"nothing":        nil,
		"one less":       {0, 1, 2},
		"one more":       {0, 1, 2, 3, 4},
		"one twice":      {0, 1, 2, 2},
		"all of one":     {0, 0, 0, 0},
		"a piece 4":      {0, 1, 2, 4},
		"a piece -1":     {0, -1, 2, 3},
		"counted from 1": {1, 2, 3, 4},
		"greatest piece": {0, 1, 2, math.MaxInt},
		"least piece":    {math.MinInt, 1, 2, 3},
		"one more twice": {0, 1, 2, 3, 3},
	}
}

// TestMarketErrors is of P4.5 to P4.8: all functions with a market return its error first, then that of gets, and nothing else.
func TestMarketErrors(t *testing.T) {
	for what, x := range wrongMarkets() {
		for _, calls := range []map[string]marketCall{getsCalls(), otherCalls()} {
			for name, f := range calls {
				for _, gets := range [][]int{{0, 1, 2, 3}, {0}, nil, {9, -1}} {
					e, more := f(x.m, gets)
					check(t, name+": "+what, e, x.e, more)
				}
			}
		}
	}
	for what, gets := range wrongGets() {
		for name, f := range getsCalls() {
			e, more := f(exampleMarket(), gets)
			check(t, name+": "+what, e, api.ErrArg, more)
		}
		rounds := []int{1, 1, 2, 2}
		wantErr(t, "CheckDeal: "+what, hire.CheckDeal(exampleMarket(), api.Deal{Gets: gets, Rounds: rounds}), api.ErrProof)
	}
}

// TestBetter is of P4.7.
func TestBetter(t *testing.T) {
	m := exampleMarket()
	for _, x := range []struct {
		a, b []int
		is   bool
	}{
		{[]int{1, 0, 3, 2}, []int{0, 1, 2, 3}, true},
		{[]int{0, 1, 2, 3}, []int{1, 0, 3, 2}, false},
		{[]int{1, 0, 3, 2}, []int{1, 0, 3, 2}, false},
		{[]int{1, 0, 2, 3}, []int{0, 1, 2, 3}, true},
		{[]int{1, 0, 3, 2}, []int{1, 0, 2, 3}, true},
		{[]int{1, 0, 2, 3}, []int{0, 1, 3, 2}, false}, // two are better off, and two worse
		{[]int{0, 1, 2, 3}, []int{0, 2, 1, 3}, true},  // its own piece is better than one that it did not wish for
		{[]int{0, 2, 1, 3}, []int{0, 3, 1, 2}, false}, // 3 does worse
		{[]int{0, 3, 1, 2}, []int{0, 2, 1, 3}, true},  // all that it did not wish for is alike
		{[]int{0, 2, 3, 1}, []int{0, 3, 2, 1}, true},
	} {
		is, e := hire.Better(m, x.a, x.b)
		wantErr(t, "Better", e, api.OK)
		if is != x.is {
			t.Error("Better", x.a, x.b, is)
		}
	}
	none := market(nil, nil, nil)
	is, e := hire.Better(none, []int{1, 2, 0}, []int{2, 0, 1})
	if is || e != api.OK {
		t.Error("Better of what is liked alike", is, e)
	}
}

// TestBetterAgrees is of P4.7, for many markets.
func TestBetterAgrees(t *testing.T) {
	r := rand.New(rand.NewSource(7))
	better := 0
	for _, m := range smallMarkets() {
		n := len(m.Wishes)
		for range 40 {
			a, b := r.Perm(n), r.Perm(n)
			worse, some := false, false
			for scribe := range n {
				worse = worse || likes(m, scribe, b[scribe], a[scribe])
				some = some || likes(m, scribe, a[scribe], b[scribe])
			}
			is, e := hire.Better(m, a, b)
			if e != api.OK || is != (some && !worse) {
				t.Error("Better", m, a, b, is, e)
			}
			if is {
				better++
			}
		}
	}
	if better < 200 {
		t.Error("too few that are better:", better)
	}
}

// TestTold is of P4.8.
func TestTold(t *testing.T) {
	for scribe := range 4 {
		for _, wishes := range append(wishLists(4, scribe), []int{}) {
			should := exampleMarket()
			should.Wishes[scribe] = wishes
			m, e := hire.Told(exampleMarket(), scribe, wishes)
			wantErr(t, "Told", e, api.OK)
			wantMarket(t, "Told", m, should)
		}
	}
	m, e := hire.Told(market(nil), 0, nil)
	wantErr(t, "Told by one", e, api.OK)
	wantMarket(t, "Told by one", m, market(nil))
	m, e = hire.Told(stairs(api.MaxScribes), 15, upTo(1, 14))
	wantErr(t, "Told by the last one", e, api.OK)
	want(t, "Told by the last one", m.Wishes[15], upTo(1, 14))
}

// TestToldErrors is of P4.8.
func TestToldErrors(t *testing.T) {
	for what, x := range map[string]struct {
		scribe int
		wishes []int
		e      api.Errno
	}{
		"scribe -1":        {-1, nil, api.ErrArg},
		"scribe 4":         {4, nil, api.ErrArg},
		"greatest scribe":  {math.MaxInt, []int{1, 1}, api.ErrArg},
		"least scribe":     {math.MinInt, []int{1, 1}, api.ErrArg},
		"scribe 4, twice":  {4, []int{1, 1}, api.ErrArg},
		"its own piece":    {2, []int{1, 2}, api.ErrArg},
		"piece -1":         {2, []int{-1}, api.ErrArg},
		"piece 4":          {2, []int{4}, api.ErrArg},
		"twice":            {2, []int{1, 3, 1}, api.ErrTwice},
		"twice and wrong":  {2, []int{1, 1, 4}, api.ErrArg},
		"twice, the first": {0, []int{3, 3}, api.ErrTwice},
		"twice, the last":  {3, []int{0, 0}, api.ErrTwice},
	} {
		m, e := hire.Told(exampleMarket(), x.scribe, x.wishes)
		check(t, what, e, x.e, len(m.Wishes) > 0)
	}
	// The market as it was is looked at first, also where the new wishes would be right.
	m, e := hire.Told(market([]int{1, 1}, nil), 0, []int{1})
	check(t, "wrong as it was", e, api.ErrTwice, len(m.Wishes) > 0)
}

// TestExampleMarket is of P4.6 and P4.7, by the examples of the chapter.
func TestExampleMarket(t *testing.T) {
	m := exampleMarket()
	d := dealOf(t, m)
	want(t, "Make", d.Gets, []int{1, 0, 3, 2})
	wantErr(t, "CheckDeal", hire.CheckDeal(m, d), api.OK)
	wantErr(t, "CheckDeal", hire.CheckDeal(m, api.Deal{Gets: []int{1, 0, 3, 2}, Rounds: []int{1, 1, 2, 2}}), api.OK)
	is, e := hire.Better(m, []int{1, 0, 3, 2}, []int{0, 1, 2, 3})
	if !is || e != api.OK {
		t.Error("Better", is, e)
	}
	group, own, is, e := hire.Objects(m, []int{2, 1, 0, 3})
	if !is || e != api.OK || len(group) == 0 {
		t.Error("Objects", group, own, is, e)
	}
	wantErr(t, "CheckObjects", hire.CheckObjects(m, []int{2, 1, 0, 3}, group, own), api.OK)
	wantErr(t, "CheckObjects", hire.CheckObjects(m, []int{2, 1, 0, 3}, []int{0, 1}, []int{1, 0}), api.OK)
}

// TestMake is of P4.6: markets in which it is plain who gets what.
func TestMake(t *testing.T) {
	for what, x := range map[string]struct {
		m    api.Market
		gets []int
	}{
		"one":                                    {market(nil), []int{0}},
		"no wishes":                              {market(nil, nil, nil), []int{0, 1, 2}},
		"all for the next":                       {ring(api.MaxScribes), append(upTo(1, api.MaxScribes-1), 0)},
		"all for those before, who want nothing": {stairs(api.MaxScribes), upTo(0, api.MaxScribes-1)},
		"all for 0, who is for 2":                {market([]int{2, 1}, []int{0, 2}, []int{0, 1}), []int{2, 1, 0}},
		"second best":                            {market([]int{1}, []int{0}, []int{0, 1, 3}, []int{1, 0, 2}), []int{1, 0, 3, 2}},
		"not beyond its own":                     {market([]int{1}, []int{0}, []int{0}, []int{2}), []int{1, 0, 2, 3}},
		"three, not two":                         {market([]int{1, 2}, []int{2, 0}, []int{0, 1}), []int{1, 2, 0}},
	} {
		d := dealOf(t, x.m)
		want(t, what, d.Gets, x.gets)
		wantErr(t, what, hire.CheckDeal(x.m, d), api.OK)
	}
}

// TestCheckDeal is of P4.6.
func TestCheckDeal(t *testing.T) {
	three := market(nil, nil, nil)
	for what, x := range map[string]struct {
		m            api.Market
		gets, rounds []int
		e            api.Errno
	}{
		"one scribe":              {market(nil), []int{0}, []int{1}, api.OK},
		"one scribe, round 0":     {market(nil), []int{0}, []int{0}, api.ErrProof},
		"one scribe, round 2":     {market(nil), []int{0}, []int{2}, api.ErrProof},
		"nothing":                 {market(nil), nil, nil, api.ErrProof},
		"no rounds":               {three, []int{0, 1, 2}, nil, api.ErrProof},
		"a round less":            {three, []int{0, 1, 2}, []int{1, 1}, api.ErrProof},
		"a round more":            {three, []int{0, 1, 2}, []int{1, 1, 1, 1}, api.ErrProof},
		"any rounds":              {three, []int{0, 1, 2}, []int{3, 1, 3}, api.OK},
		"last rounds":             {three, []int{0, 1, 2}, []int{3, 3, 3}, api.OK},
		"round 4":                 {three, []int{0, 1, 2}, []int{1, 4, 1}, api.ErrProof},
		"round 0":                 {three, []int{0, 1, 2}, []int{1, 0, 1}, api.ErrProof},
		"round -1":                {three, []int{0, 1, 2}, []int{1, -1, 1}, api.ErrProof},
		"greatest round":          {three, []int{0, 1, 2}, []int{1, math.MaxInt, 1}, api.ErrProof},
		"beyond its own":          {three, []int{1, 0, 2}, []int{1, 1, 1}, api.ErrProof},
		"rounds of one loop":      {market([]int{1}, []int{0}), []int{1, 0}, []int{1, 2}, api.ErrProof},
		"rounds of one loop, too": {market([]int{1}, []int{0}), []int{1, 0}, []int{2, 1}, api.ErrProof},
		"one loop":                {market([]int{1}, []int{0}), []int{1, 0}, []int{2, 2}, api.OK},
		"two rounds":              {market(nil, []int{0}), []int{0, 1}, []int{1, 2}, api.OK},
		"one round":               {market(nil, []int{0}), []int{0, 1}, []int{1, 1}, api.ErrProof},
		"rounds the other way":    {market(nil, []int{0}), []int{0, 1}, []int{2, 1}, api.ErrProof},
		"not the best one":        {market([]int{1}, []int{0}), []int{0, 1}, []int{1, 2}, api.ErrProof},
		"example, one round":      {exampleMarket(), []int{1, 0, 3, 2}, []int{1, 1, 1, 1}, api.ErrProof},
		"example, late rounds":    {exampleMarket(), []int{1, 0, 3, 2}, []int{2, 2, 4, 4}, api.OK},
		"example, other gets":     {exampleMarket(), []int{0, 1, 3, 2}, []int{1, 1, 2, 2}, api.ErrProof},
		"most rounds":             {stairs(api.MaxScribes), upTo(0, 15), upTo(1, 16), api.OK},
		"rounds counted from 0":   {stairs(api.MaxScribes), upTo(0, 15), upTo(0, 15), api.ErrProof},
		"a wish for nobody's":     {market([]int{1}, nil), []int{1, 0}, []int{1, 1}, api.ErrProof},
	} {
		if e := hire.CheckDeal(x.m, api.Deal{Gets: x.gets, Rounds: x.rounds}); e != x.e {
			t.Errorf("%s: error %d, want %d", what, e, x.e)
		}
	}
}

// TestDealsAgree is of P4.6 and P4.14, by trying all gets, and all rounds of few scribes.
func TestDealsAgree(t *testing.T) {
	for _, m := range smallMarkets() {
		d := dealOf(t, m)
		n := len(m.Wishes)
		if !prove(m, d.Gets, d.Rounds) || someObject(m, d.Gets) {
			t.Error("Make", m, d)
		}
		for _, gets := range rows(n) {
			if should := slices.Equal(gets, d.Gets); should == someObject(m, gets) {
				t.Error("P4.14: other gets to which no group objects:", m, d, gets)
			}
			if n > 3 {
				continue
			}
			rounds := make([]int, n)
			for k := range (n + 2) * (n + 2) * (n + 2) {
				for i := range rounds {
					rounds[i] = k % (n + 2)
					k /= n + 2
				}
				should := api.ErrProof
				if prove(m, gets, rounds) {
					should = api.OK
				}
				if e := hire.CheckDeal(m, api.Deal{Gets: gets, Rounds: rounds}); e != should {
					t.Error("CheckDeal", m, gets, rounds, e, should)
				}
				if should == api.OK && !slices.Equal(gets, d.Gets) {
					t.Error("P4.14: rounds prove other gets:", m, gets, rounds)
				}
			}
		}
	}
}

// TestObjectsAgree is of P4.7 and P4.15, by trying all gets, and all groups of few scribes.
func TestObjectsAgree(t *testing.T) {
	none, some := 0, 0
	for _, m := range smallMarkets() {
		for _, gets := range rows(len(m.Wishes)) {
			group, own, is, e := hire.Objects(m, gets)
			if e != api.OK || is != someObject(m, gets) {
				t.Error("Objects", m, gets, is, e)
			}
			if !is {
				none++
				if len(group)+len(own) > 0 {
					t.Error("Objects", m, gets, group, own)
				}
				continue
			}
			some++
			wantObjection(t, m, gets, group, own)
		}
	}
	if none < 200 || some < 2000 {
		t.Error("too few of a sort:", none, some)
	}
}

// wantObjection is that a group objects to gets with its own ones, and CheckObjects says so.
func wantObjection(t *testing.T, m api.Market, gets, group, own []int) {
	t.Helper()
	rising := len(group) > 0 && slices.IsSorted(group) && len(slices.Compact(slices.Clone(group))) == len(group)
	pieces := slices.Clone(own)
	slices.Sort(pieces)
	if !rising || !slices.Equal(pieces, group) || !object(m, gets, group, own) {
		t.Error("Objects", m, gets, group, own)
	}
	wantErr(t, "CheckObjects of Objects", hire.CheckObjects(m, gets, group, own), api.OK)
}

// TestCheckObjects is of P4.7.
func TestCheckObjects(t *testing.T) {
	m, gets := exampleMarket(), []int{2, 1, 0, 3}
	for what, x := range map[string]struct {
		group, own []int
		e          api.Errno
	}{
		"two":                    {[]int{0, 1}, []int{1, 0}, api.OK},
		"two, and one as it is":  {[]int{0, 1, 3}, []int{1, 0, 3}, api.OK},
		"four, one does worse":   {[]int{0, 1, 2, 3}, []int{1, 0, 3, 2}, api.ErrProof},
		"two others":             {[]int{2, 3}, []int{3, 2}, api.ErrProof}, // 2 has the best already
		"two, as they have it":   {[]int{0, 2}, []int{2, 0}, api.ErrProof},
		"one, as it has it":      {[]int{1}, []int{1}, api.ErrProof},
		"one alone":              {[]int{0}, []int{0}, api.ErrProof},
		"nobody":                 {nil, nil, api.ErrProof},
		"nobody, a piece":        {nil, []int{0}, api.ErrProof},
		"no pieces":              {[]int{0, 1}, nil, api.ErrProof},
		"a piece less":           {[]int{0, 1}, []int{1}, api.ErrProof},
		"a piece more":           {[]int{0, 1}, []int{1, 0, 2}, api.ErrProof},
		"a piece twice":          {[]int{0, 1}, []int{1, 1}, api.ErrProof},
		"a piece of another one": {[]int{0, 3}, []int{1, 2}, api.ErrProof},
		"falling":                {[]int{1, 0}, []int{0, 1}, api.ErrProof},
		"twice":                  {[]int{0, 0, 1}, []int{1, 1, 0}, api.ErrProof},
		"one twice at the end":   {[]int{0, 1, 1}, []int{1, 0, 1}, api.ErrProof},
		"scribe -1":              {[]int{-1, 0}, []int{0, -1}, api.ErrProof},
		"scribe 4":               {[]int{0, 4}, []int{4, 0}, api.ErrProof},
		"just scribe 4":          {[]int{4}, []int{4}, api.ErrProof},
		"greatest scribe":        {[]int{math.MaxInt}, []int{math.MaxInt}, api.ErrProof},
		"least scribe":           {[]int{math.MinInt}, []int{math.MinInt}, api.ErrProof},
	} {
		if e := hire.CheckObjects(m, gets, x.group, x.own); e != x.e {
			t.Errorf("%s: error %d, want %d", what, e, x.e)
		}
	}
	// One does better with its own piece than with one that it did not wish for; and what is liked alike does not count.
	wantErr(t, "its own", hire.CheckObjects(market(nil, nil), []int{1, 0}, []int{1}, []int{1}), api.OK)
	wantErr(t, "alike", hire.CheckObjects(market([]int{1}, nil, nil), []int{2, 0, 1}, []int{0, 1, 2}, []int{1, 2, 0}), api.OK)
	wantErr(t, "all alike", hire.CheckObjects(market(nil, nil, nil), []int{1, 2, 0}, []int{0, 1, 2}, []int{2, 0, 1}), api.ErrProof)
}

// TestCheckObjectsAgrees is of P4.7, by trying all groups of few scribes, with all pieces.
func TestCheckObjectsAgrees(t *testing.T) {
	for _, m := range smallMarkets() {
		n := len(m.Wishes)
		if n > 4 {
			continue
		}
		for _, gets := range rows(n) {
			for _, group := range subsets(n) {
				for _, own := range arranged(group) {
					should := api.ErrProof
					if object(m, gets, group, own) {
						should = api.OK
					}
					if e := hire.CheckObjects(m, gets, group, own); e != should {
						t.Error("CheckObjects", m, gets, group, own, e, should)
					}
				}
			}
		}
	}
}
