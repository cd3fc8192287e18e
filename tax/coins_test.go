package tax_test

import (
	"math"
	"math/rand"
	"slices"
	"strings"
	"testing"

	"pecia/api"
	"pecia/tax"
)

// six is the names of as many kinds as there can be.
func six() []string { return names("a", "b", "c", "d", "e", "f") }

// TestCheckCoinage is of P7.1.
func TestCheckCoinage(t *testing.T) {
	for what, x := range map[string]struct {
		c api.Coinage
		e api.Errno
	}{
		"the example":                   {pounds(), api.OK},
		"one kind":                      {coinage(names("d")), api.OK},
		"short and long names":          {coinage(names("a", "abcd", "zzzz", "z"), 2, 2, 2), api.OK},
		"the least and greatest Radix":  {coinage(names("a", "b", "c"), 2, 1000), api.OK},
		"six kinds":                     {coinage(six(), 2, 2, 2, 2, 2), api.OK},
		"worth as much as it can be":    {coinage(six(), 256, 256, 256, 256, 256), api.OK},
		"names that begin alike":        {coinage(names("a", "aa", "aaa"), 2, 2), api.OK},
		"the same Radix":                {coinage(names("a", "b", "c"), 12, 12), api.OK},
		"nothing":                       {api.Coinage{}, api.ErrArg},
		"no names, a Radix":             {coinage(nil, 2), api.ErrArg},
		"one kind, a Radix":             {coinage(names("d"), 12), api.ErrArg},
		"one kind, many Radixes":        {coinage(names("d"), same(9, 12)...), api.ErrArg},
		"too few Radixes":               {coinage(names("li", "s", "d"), 20), api.ErrArg},
		"no Radixes":                    {coinage(names("s", "d")), api.ErrArg},
		"as many Radixes as names":      {coinage(names("li", "s", "d"), 20, 12, 4), api.ErrArg},
		"no name":                       {coinage(names("li", "", "d"), 20, 12), api.ErrArg},
		"a long name":                   {coinage(names("li", "s", "denar"), 20, 12), api.ErrArg},
		"a great letter":                {coinage(names("Li", "s", "d"), 20, 12), api.ErrArg},
		"a digit":                       {coinage(names("l1", "s", "d"), 20, 12), api.ErrArg},
		"a blank":                       {coinage(names("l i", "s", "d"), 20, 12), api.ErrArg},
		"a blank alone":                 {coinage(names("li", " ", "d"), 20, 12), api.ErrArg},
		"a line feed":                   {coinage(names("li\n", "s", "d"), 20, 12), api.ErrArg},
		"the byte ahead of a":           {coinage(names("`"), nil...), api.ErrArg},
		"the byte behind z":             {coinage(names("a{"), nil...), api.ErrArg},
		"a letter of two bytes":         {coinage(names("\u00e4"), nil...), api.ErrArg},
		"a byte that is no letter":      {coinage(names("a\xff"), nil...), api.ErrArg},
		"a byte 0":                      {coinage(names("a\x00"), nil...), api.ErrArg},
		"a Radix of 1":                  {coinage(names("li", "s", "d"), 20, 1), api.ErrArg},
		"a Radix of 0":                  {coinage(names("li", "s", "d"), 0, 12), api.ErrArg},
		"a Radix less than 0":           {coinage(names("li", "s", "d"), -20, -12), api.ErrArg},
		"a great Radix":                 {coinage(names("li", "s", "d"), 20, 1001), api.ErrArg},
		"a far Radix":                   {coinage(names("li", "s", "d"), math.MaxInt, math.MinInt), api.ErrArg},
		"seven kinds":                   {coinage(append(six(), "g"), same(6, 2)...), api.ErrLimit},
		"seven wrong kinds":             {coinage(same(7, ""), 1), api.ErrLimit},
		"many kinds with the same name": {coinage(same(500, "d"), same(499, 2)...), api.ErrLimit},
		"the same name":                 {coinage(names("s", "li", "s"), 20, 12), api.ErrTwice},
		"the same name, and wrong":      {coinage(names("s", "s", "d"), 20, 1), api.ErrArg},
		"wrong, and the same name":      {coinage(names("S", "s", "s"), 20, 12), api.ErrArg},
		"the same name, too few":        {coinage(names("s", "s", "d"), 20), api.ErrArg},
		"worth nearly twice too much":   {coinage(names("a", "b", "c", "d", "e", "f"), 1000, 1000, 1000, 1000, 2), api.ErrRange},
		"worth a bit too much":          {coinage(six(), 256, 256, 256, 256, 257), api.ErrRange},
		"worth the most by Radix":       {coinage(six(), same(5, 1000)...), api.ErrRange},
		"worth too much, and twice":     {coinage(names("a", "b", "c", "d", "e", "a"), same(5, 1000)...), api.ErrTwice},
		"worth too much, and wrong":     {coinage(names("a", "b", "c", "d", "e", "f1"), same(5, 1000)...), api.ErrArg},
	} {
		wantErr(t, what, tax.CheckCoinage(x.c), x.e)
		wantFirst(t, what, x.c, x.e)
	}
}

// wantFirst is that all functions return the error of a coinage first, and nothing with it; or none, if there is none.
func wantFirst(t *testing.T, what string, c api.Coinage, e api.Errno) {
	t.Helper()
	l, got := tax.Worth(c)
	if e == api.OK {
		check(t, "Worth: "+what, got, e, len(l) != len(c.Names))
		return
	}
	check(t, "Worth: "+what, got, e, len(l) > 0)
	l, got = tax.Split(c, -1)
	check(t, "Split: "+what, got, e, len(l) > 0)
	l, got = tax.Split(c, 1000)
	check(t, "Split: "+what, got, e, len(l) > 0)
	for _, coins := range [][]int{nil, list(-1), list(1, 1, 1), list(math.MaxInt, 0, 0)} {
		n, got := tax.Unite(c, coins)
		check(t, "Unite: "+what, got, e, n != 0)
	}
	for _, n := range list(-1, 0, 240) {
		text, got := tax.Print(c, n)
		check(t, "Print: "+what, got, e, text != "")
	}
	for _, text := range []string{"", "1 d", "x", "1 d 1", strings.Repeat("1", 101)} {
		n, got, at := tax.Parse(c, text)
		check(t, "Parse: "+what, got, e, n != 0 || at != 0)
	}
}

// TestWorth is of P7.1.
func TestWorth(t *testing.T) {
	for _, x := range []struct {
		c      api.Coinage
		should []int
	}{
		{pounds(), list(240, 12, 1)},
		{coinage(names("d")), list(1)},
		{coinage(names("b", "a"), 2), list(2, 1)},
		{coinage(names("aaaa", "aa", "zzzz", "z"), 2, 3, 5), list(30, 15, 5, 1)},
		{coinage(six(), 256, 256, 256, 256, 256), list(1<<40, 1<<32, 1<<24, 1<<16, 1<<8, 1)},
		{coinage(six(), 2, 3, 5, 7, 1000), list(210000, 105000, 35000, 7000, 1000, 1)},
	} {
		l, e := tax.Worth(x.c)
		wantErr(t, x.c, e, api.OK)
		want(t, x.c, l, x.should)
	}
}

// wantCoins is that an amount is split into coins, and that these make it.
func wantCoins(t *testing.T, c api.Coinage, n int, should []int) {
	t.Helper()
	l, e := tax.Split(c, n)
	wantErr(t, "Split", e, api.OK)
	want(t, "Split", l, should)
	m, e := tax.Unite(c, should)
	wantErr(t, "Unite", e, api.OK)
	want(t, "Unite", m, n)
}

// TestCoins is of P7.2.
func TestCoins(t *testing.T) {
	wantCoins(t, pounds(), 0, list(0, 0, 0))
	wantCoins(t, pounds(), 1, list(0, 0, 1))
	wantCoins(t, pounds(), 11, list(0, 0, 11))
	wantCoins(t, pounds(), 12, list(0, 1, 0))
	wantCoins(t, pounds(), 239, list(0, 19, 11))
	wantCoins(t, pounds(), 240, list(1, 0, 0))
	wantCoins(t, pounds(), 1000, list(4, 3, 4))
	wantCoins(t, pounds(), most, list(most/240, most%240/12, most%12))
	wantCoins(t, coinage(names("d")), 0, list(0))
	wantCoins(t, coinage(names("d")), most, list(most))
	c := coinage(six(), 256, 256, 256, 256, 256)
	wantCoins(t, c, most, list(1, 0, 0, 0, 0, 0))
	wantCoins(t, c, most-1, list(0, 255, 255, 255, 255, 255))
	wantCoins(t, c, 258, list(0, 0, 0, 0, 1, 2))
}

// TestCounting is of P7.2 and P7.9: amounts one after the other have coins that are counted up by one.
func TestCounting(t *testing.T) {
	for _, c := range coinages() {
		coins := make([]int, len(c.Names))
		for n := range 3000 {
			wantCoins(t, c, n, coins)
			at := len(coins) - 1
			coins[at]++
			for at > 0 && coins[at] == c.Radix[at-1] {
				coins[at] = 0
				at--
				coins[at]++
			}
		}
	}
}

// TestSplitErrors is of P7.2.
func TestSplitErrors(t *testing.T) {
	for _, c := range coinages() {
		for _, n := range append(far(), -240, most+1, most+240) {
			l, e := tax.Split(c, n)
			check(t, n, e, api.ErrArg, len(l) > 0)
		}
	}
}

// TestUniteErrors is of P7.2.
func TestUniteErrors(t *testing.T) {
	one, deep := coinage(names("d")), coinage(six(), 256, 256, 256, 256, 256)
	type test struct {
		c     api.Coinage
		coins []int
		e     api.Errno
	}
	tests := []test{
		{pounds(), nil, api.ErrArg},
		{pounds(), list(1, 2), api.ErrArg},
		{pounds(), list(1, 2, 3, 4), api.ErrArg},
		{pounds(), list(-1, 0, 0), api.ErrArg},
		{pounds(), list(1, -1, 0), api.ErrArg},
		{pounds(), list(1, 0, -1), api.ErrArg},
		{pounds(), list(0, 20, 0), api.ErrArg},
		{pounds(), list(0, 0, 12), api.ErrArg},
		{pounds(), list(0, 19, 12), api.ErrArg},
		{pounds(), list(20, 20, 11), api.ErrArg},
		{pounds(), list(most, 20, 0), api.ErrArg},
		{pounds(), list(math.MaxInt, 0, 12), api.ErrArg},
		{pounds(), list(math.MaxInt, math.MaxInt, math.MaxInt), api.ErrArg},
		{pounds(), list(most, 19, 11), api.ErrRange},
		{pounds(), list(most/240+1, 0, 0), api.ErrRange},
		{pounds(), list(most/240, most%240/12, most%12+1), api.ErrRange},
		{pounds(), list(math.MaxUint64/240+1, 0, 0), api.ErrRange}, // together less than 240, if all were reckoned in 64 bits
		{one, nil, api.ErrArg},
		{one, list(-1), api.ErrArg},
		{one, list(1, 0), api.ErrArg},
		{one, list(most + 1), api.ErrRange},
		{one, list(math.MaxInt), api.ErrRange},
		{deep, list(1, 0, 0, 0, 0, 1), api.ErrRange},
		{deep, list(2, 0, 0, 0, 0, 0), api.ErrRange},
		{deep, list(1<<24, 0, 0, 0, 0, 0), api.ErrRange}, // nothing at all, in 64 bits
		{deep, list(1<<24, 0, 0, 0, 0, 256), api.ErrArg},
		{coinage(names("b", "a"), 2), list(0, 2), api.ErrArg},
		{coinage(names("b", "a"), 2), list(most/2, 1), api.ErrRange},
	}
	for _, n := range far() {
		e := api.ErrArg
		if n > 0 {
			e = api.ErrRange
		}
		tests = append(tests, test{pounds(), list(n, 19, 11), e}, test{pounds(), list(0, n, 0), api.ErrArg}, test{pounds(), list(0, 0, n), api.ErrArg})
	}
	for _, x := range tests {
		n, e := tax.Unite(x.c, x.coins)
		check(t, x.coins, e, x.e, n != 0)
	}
}

// TestSplitAndUnite is of P7.9.
func TestSplitAndUnite(t *testing.T) {
	r := rand.New(rand.NewSource(1))
	for _, c := range coinages() {
		for range 500 {
			n, m := someAmount(r, c), someAmount(r, c)
			l, e := tax.Split(c, n)
			wantErr(t, "Split", e, api.OK)
			other, e := tax.Split(c, m)
			wantErr(t, "Split", e, api.OK)
			if got, want := slices.Compare(l, other), slices.Compare(list(n), list(m)); got != want {
				t.Error("P7.9: first coins that differ:", c, n, l, m, other)
			}
			back, e := tax.Unite(c, l)
			wantErr(t, "Unite", e, api.OK)
			want(t, "P7.9: Unite of Split", back, n)
			for i, coins := range l {
				if coins < 0 || i > 0 && coins >= c.Radix[i-1] {
					t.Error("Split:", c, n, l)
				}
			}
		}
	}
}
