package tax_test

import (
	"math/rand"
	"slices"
	"testing"

	"pecia/api"
	"pecia/tax"
)

func price(piece, year, coins int) api.Price {
	return api.Price{Piece: piece, Year: year, Coins: coins}
}

// prices is prices of a piece, from pairs of a year and coins.
func prices(piece int, n ...int) []api.Price {
	var l []api.Price
	for i := 0; i+1 < len(n); i += 2 {
		l = append(l, price(piece, n[i], n[i+1]))
	}
	return l
}

// manyPrices is n prices of a piece, each of another year.
func manyPrices(n int) []api.Price {
	var l []api.Price
	for i := range n {
		l = append(l, price(7, i+1, i))
	}
	return l
}

// TestCheckPrices is of P7.4.
func TestCheckPrices(t *testing.T) {
	one := price(7, 1300, 5)
	for what, x := range map[string]struct {
		l []api.Price
		e api.Errno
	}{
		"none":                          {nil, api.OK},
		"the example":                   {prices(7, 1300, 5, 1310, 6), api.OK},
		"least numbers":                 {prices(1, 1, 0), api.OK},
		"greatest numbers":              {prices(1<<40, 9999, 1<<20), api.OK},
		"the same year":                 {[]api.Price{one, price(8, 1300, 5)}, api.OK},
		"years in no order":             {prices(7, 1310, 5, 1300, 5, 1305, 5), api.OK},
		"most prices":                   {manyPrices(60), api.OK},
		"the piece 0":                   {prices(0, 1300, 5), api.ErrArg},
		"a piece less than 0":           {prices(-7, 1300, 5), api.ErrArg},
		"a great piece":                 {prices(1<<40+1, 1300, 5), api.ErrArg},
		"the year 0":                    {prices(7, 0, 5), api.ErrArg},
		"a year less than 0":            {prices(7, -1300, 5), api.ErrArg},
		"a great year":                  {prices(7, 10000, 5), api.ErrArg},
		"less than nothing":             {prices(7, 1300, -1), api.ErrArg},
		"a great price":                 {prices(7, 1300, 1<<20+1), api.ErrArg},
		"too many prices":               {manyPrices(61), api.ErrLimit},
		"too many wrong prices":         {make([]api.Price, 61), api.ErrLimit},
		"the same piece and year":       {[]api.Price{one, price(8, 1300, 5), one}, api.ErrTwice},
		"two prices of a year":          {prices(7, 1300, 5, 1301, 5, 1300, 6), api.ErrTwice},
		"a wrong one that is twice":     {prices(7, 1300, 5, 1300, -1), api.ErrArg},
		"twice, then a wrong one":       {prices(7, 1300, 5, 1300, 5, 0, 5), api.ErrTwice},
		"a wrong one, then twice":       {prices(7, 1300, 5, 0, 5, 1300, 5), api.ErrArg},
		"a wrong one behind many":       {append(manyPrices(59), price(7, 1300, -1)), api.ErrArg},
		"the same behind many":          {append(manyPrices(59), price(7, 59, 0)), api.ErrTwice},
		"piece and year the other way":  {[]api.Price{price(7, 8, 1), price(8, 7, 1)}, api.OK},
		"piece and coins the other way": {[]api.Price{price(7, 1, 8), price(8, 1, 7)}, api.OK},
	} {
		wantErr(t, what, tax.CheckPrices(x.l), x.e)
		if x.e == api.OK {
			continue
		}
		for _, n := range list(0, 7, 1300) {
			coins, e := tax.PriceOf(x.l, n, n)
			check(t, "PriceOf: "+what, e, x.e, coins != 0)
		}
		years, e := tax.Changes(x.l, 7)
		check(t, "Changes: "+what, e, x.e, len(years) > 0)
	}
	for _, n := range append(far(), 0, 1<<40+1) {
		wantErr(t, n, tax.CheckPrices(prices(n, 1300, 5)), api.ErrArg)
		wantErr(t, n, tax.CheckPrices(prices(7, n, 5)), api.ErrArg)
		if n != 0 {
			wantErr(t, n, tax.CheckPrices(prices(7, 1300, n)), api.ErrArg)
		}
	}
}

// wantPrice is that a price is as it should be; less than 0: that there is none.
func wantPrice(t *testing.T, l []api.Price, piece, year, should int) {
	t.Helper()
	n, e := tax.PriceOf(l, piece, year)
	if should < 0 {
		check(t, "PriceOf", e, api.ErrNone, n != 0)
		return
	}
	wantErr(t, "PriceOf", e, api.OK)
	want(t, "PriceOf", n, should)
}

// TestPriceOf is of P7.4.
func TestPriceOf(t *testing.T) {
	l := []api.Price{price(7, 1310, 6), price(8, 1305, 9), price(7, 1300, 5), price(9, 1, 0), price(1<<40, 9999, 1<<20)}
	for _, x := range []struct{ piece, year, should int }{
		{7, 1, -1}, {7, 1299, -1}, {7, 1300, 5}, {7, 1305, 5}, {7, 1309, 5}, {7, 1310, 6}, {7, 1311, 6}, {7, 9999, 6},
		{8, 1304, -1}, {8, 1305, 9}, {8, 9999, 9},
		{9, 1, 0}, {9, 9999, 0},
		{1 << 40, 9998, -1}, {1 << 40, 9999, 1 << 20},
		{1, 1300, -1}, {6, 9999, -1}, {10, 9999, -1},
	} {
		wantPrice(t, l, x.piece, x.year, x.should)
	}
	wantPrice(t, nil, 7, 1300, -1)
	for _, n := range append(far(), 0, 1<<40+1) {
		coins, e := tax.PriceOf(l, n, 1305)
		check(t, n, e, api.ErrArg, coins != 0)
		coins, e = tax.PriceOf(l, 7, n)
		check(t, n, e, api.ErrArg, coins != 0)
		coins, e = tax.PriceOf(nil, n, n)
		check(t, n, e, api.ErrArg, coins != 0)
	}
	for _, year := range list(0, 10000) {
		coins, e := tax.PriceOf(l, 1, year)
		check(t, year, e, api.ErrArg, coins != 0)
	}
}

// TestChanges is of P7.4.
func TestChanges(t *testing.T) {
	for what, x := range map[string]struct {
		l      []api.Price
		should []int
	}{
		"no list":                  {nil, nil},
		"prices of others":         {prices(8, 1300, 5, 1310, 6), nil},
		"the example":              {prices(7, 1300, 5, 1310, 6), list(1300, 1310)},
		"in another order":         {prices(7, 1310, 6, 1300, 5), list(1300, 1310)},
		"the same price":           {prices(7, 1300, 5, 1310, 5, 1320, 6, 1330, 6), list(1300, 1320)},
		"the same in another":      {prices(7, 1330, 6, 1310, 5, 1300, 5, 1320, 6), list(1300, 1320)},
		"up and down":              {prices(7, 1300, 5, 1301, 6, 1302, 5), list(1300, 1301, 1302)},
		"for nothing":              {prices(7, 1300, 0), list(1300)},
		"for nothing, later":       {prices(7, 1300, 0, 1301, 0, 1302, 1, 1303, 0), list(1300, 1302, 1303)},
		"the first year":           {prices(7, 1, 5, 9999, 6), list(1, 9999)},
		"the first, for nothing":   {prices(7, 1, 0), list(1)},
		"others in between":        {[]api.Price{price(7, 1300, 5), price(8, 1305, 6), price(7, 1310, 5)}, list(1300)},
		"others as much":           {[]api.Price{price(8, 1300, 5), price(7, 1301, 5), price(8, 1302, 6), price(7, 1303, 6)}, list(1301, 1303)},
		"the greatest and a small": {[]api.Price{price(1<<40, 1300, 5), price(7, 1301, 1<<20)}, list(1301)},
	} {
		years, e := tax.Changes(x.l, 7)
		wantErr(t, what, e, api.OK)
		want(t, what, years, x.should)
	}
	years, e := tax.Changes(prices(1<<40, 1300, 5), 1<<40)
	wantErr(t, "the greatest piece", e, api.OK)
	want(t, "the greatest piece", years, list(1300))
}

// priceIn is the price of a piece in a year, by the words of the document; less than 0, if there is none.
func priceIn(l []api.Price, piece, year int) int {
	best := price(piece, 0, -1)
	for _, p := range l {
		if p.Piece == piece && p.Year <= year && p.Year > best.Year {
			best = p
		}
	}
	return best.Coins
}

// TestAllYears is of P7.4 and P7.10, with any small lists.
func TestAllYears(t *testing.T) {
	r := rand.New(rand.NewSource(4))
	for range 300 {
		var l []api.Price
		for range r.Intn(12) {
			p := price(1+r.Intn(3), 1+r.Intn(12), r.Intn(3))
			if !slices.ContainsFunc(l, func(o api.Price) bool { return o.Piece == p.Piece && o.Year == p.Year }) {
				l = append(l, p)
			}
		}
		for piece := 1; piece <= 3; piece++ {
			years, e := tax.Changes(l, piece)
			wantErr(t, "Changes", e, api.OK)
			var should []int
			for year := 1; year <= 14; year++ {
				n := priceIn(l, piece, year)
				wantPrice(t, l, piece, year, n)
				if n != priceIn(l, piece, year-1) {
					should = append(should, year)
				}
			}
			want(t, "P7.10: Changes", years, should)
		}
	}
}
