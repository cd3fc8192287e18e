package tax_test

import (
	"math/big"
	"math/rand"
	"testing"

	"pecia/api"
	"pecia/tax"
)

// wantShares is what partners get of amounts, and the next turn.
func wantShares(t *testing.T, l, parts []int, turn int, should []int, next int) {
	t.Helper()
	got, n, e := tax.Shares(l, parts, turn)
	wantErr(t, "Shares", e, api.OK)
	want(t, "Shares", got, should)
	want(t, "the next turn", n, next)
	if len(l) == 1 {
		got, n, e = tax.Share(l[0], parts, turn)
		wantErr(t, "Share", e, api.OK)
		want(t, "Share", got, should)
		want(t, "the next turn", n, next)
	}
}

// TestShares is of P7.6.
func TestShares(t *testing.T) {
	equal := list(1, 1, 1)
	wantShares(t, list(10), equal, 0, list(4, 3, 3), 1)
	wantShares(t, list(10), equal, 1, list(3, 4, 3), 2)
	wantShares(t, list(10), equal, 2, list(3, 3, 4), 0)
	wantShares(t, list(11), equal, 0, list(4, 4, 3), 2)
	wantShares(t, list(11), equal, 2, list(4, 3, 4), 1)
	wantShares(t, list(12), equal, 2, list(4, 4, 4), 2)
	wantShares(t, list(0), equal, 1, list(0, 0, 0), 1)
	wantShares(t, list(1), equal, 2, list(0, 0, 1), 0)
	wantShares(t, list(7), list(2, 0, 1), 1, list(4, 0, 3), 0)
	wantShares(t, list(7), list(2, 0, 1), 0, list(5, 0, 2), 1)
	wantShares(t, list(7), list(2, 0, 1), 2, list(4, 0, 3), 0)
	wantShares(t, list(8), list(2, 0, 1), 1, list(5, 0, 3), 0)
	wantShares(t, list(5), list(7), 0, list(5), 0)
	wantShares(t, list(5), list(0, 1000), 0, list(0, 5), 0)
	wantShares(t, list(10), list(1, 1, 2), 0, list(3, 2, 5), 1) // the third one has his exact share
	wantShares(t, list(10), list(1, 1, 2), 2, list(3, 2, 5), 1)
	wantShares(t, list(10), list(1, 1, 2), 1, list(2, 3, 5), 2)
	wantShares(t, list(most), list(1000, 999, 1), 0, list(most/2, 549206058075, 549755813), 2)
	wantShares(t, list(10, 10), equal, 0, list(7, 7, 6), 2)
	wantShares(t, list(10, 10, 10), equal, 0, list(10, 10, 10), 0)
	wantShares(t, list(1, 0, 3, 1), equal, 2, list(2, 1, 2), 1)
	wantShares(t, nil, equal, 0, list(0, 0, 0), 0)
	wantShares(t, nil, list(5, 0), 1, list(0, 0), 1)
	wantShares(t, list(most, 0, 0), list(1), 0, list(most), 0)
	wantShares(t, list(most-1, 1), list(1, 1), 0, list(most/2, most/2), 0)
	wantShares(t, same(80, 1), same(10, 1), 3, same(10, 8), 3)
	wantShares(t, same(79, 1), same(10, 1), 3, list(8, 8, 7, 8, 8, 8, 8, 8, 8, 8), 2)
	wantShares(t, list(most), same(10, 1000), 9, list(109951162778, 109951162778, 109951162778, 109951162778, 109951162778, 109951162777, 109951162777, 109951162777, 109951162777, 109951162778), 5)
}

// wantShareErr is the error of amounts; and of one amount, where it is just one.
func wantShareErr(t *testing.T, l, parts []int, turn int, should api.Errno) {
	t.Helper()
	got, n, e := tax.Shares(l, parts, turn)
	check(t, "Shares", e, should, len(got) > 0 || n != 0)
	if len(l) == 1 {
		got, n, e = tax.Share(l[0], parts, turn)
		check(t, "Share", e, should, len(got) > 0 || n != 0)
	}
}

// TestShareErrors is of P7.6.
func TestShareErrors(t *testing.T) {
	two := list(1, 1)
	wantShareErr(t, same(81, 1), two, 1, api.ErrLimit)
	wantShareErr(t, same(81, -1), nil, 5, api.ErrLimit)
	wantShareErr(t, same(81, most), two, 1, api.ErrLimit)
	for _, n := range append(far(), most+1) {
		wantShareErr(t, list(n), two, 1, api.ErrArg)
		wantShareErr(t, list(1, n), two, 1, api.ErrArg)
		wantShareErr(t, list(most, most, n), two, 1, api.ErrArg)
		wantShareErr(t, list(1), two, n, api.ErrArg)
		wantShareErr(t, nil, two, n, api.ErrArg)
		wantShareErr(t, list(1), list(1, n), 1, api.ErrArg)
		wantShareErr(t, nil, list(n, 1), 1, api.ErrArg)
	}
	wantShareErr(t, list(1), nil, 0, api.ErrArg)
	wantShareErr(t, nil, nil, 0, api.ErrArg)
	wantShareErr(t, list(1), list(0), 0, api.ErrArg)
	wantShareErr(t, list(1), same(10, 0), 1, api.ErrArg)
	wantShareErr(t, list(0), same(10, 0), 1, api.ErrArg)
	wantShareErr(t, list(1), same(11, 1), 1, api.ErrArg)
	wantShareErr(t, list(1), list(1001), 0, api.ErrArg)
	wantShareErr(t, list(1), list(1000, 1001), 1, api.ErrArg)
	wantShareErr(t, list(1), list(5, -5), 1, api.ErrArg)
	wantShareErr(t, list(1), list(5, -1), 1, api.ErrArg)
	wantShareErr(t, list(1), two, 2, api.ErrArg)
	wantShareErr(t, list(1), same(10, 1), 10, api.ErrArg)
	wantShareErr(t, list(most, 1), two, 1, api.ErrRange)
	wantShareErr(t, list(1, most), list(1, 0), 1, api.ErrRange)
	wantShareErr(t, same(80, most), two, 1, api.ErrRange)
	wantShareErr(t, list(most, 1), two, 2, api.ErrArg)
	wantShareErr(t, list(most, 1), list(0, 0), 1, api.ErrArg)
}

// exact is the exact share of an amount by one of some parts.
func exact(n int, parts []int, who int) *big.Rat {
	share := big.NewRat(int64(parts[who]), int64(sum(parts)))
	return share.Mul(share, big.NewRat(int64(n), 1))
}

// divide is how an amount is divided, by the words of the document.
func divide(n int, parts []int, turn int) ([]int, int) {
	var shares []int
	for who := range parts {
		x := exact(n, parts, who)
		whole := new(big.Int).Quo(x.Num(), x.Denom())
		shares = append(shares, int(whole.Int64()))
	}
	next := turn
	who := turn
	for left := n - sum(shares); left > 0; who = (who + 1) % len(parts) {
		if !exact(n, parts, who).IsInt() {
			shares[who]++
			left--
			next = (who + 1) % len(parts)
		}
	}
	return shares, next
}

// someParts is any parts.
func someParts(r *rand.Rand) []int {
	l := make([]int, 1+r.Intn(10))
	size := list(2, 5, 1001)[r.Intn(3)]
	for i := range l {
		l[i] = r.Intn(size)
	}
	if sum(l) == 0 {
		l[r.Intn(len(l))] = size - 1
	}
	return l
}

// isNear is whether what a partner gets is less than so many coins away from his exact share.
func isNear(n int, x *big.Rat, coins int) bool {
	away := new(big.Rat).Sub(big.NewRat(int64(n), 1), x)
	return away.Abs(away).Cmp(big.NewRat(int64(coins), 1)) < 0
}

// TestEveryCoin is of P7.6 and P7.11.
func TestEveryCoin(t *testing.T) {
	r := rand.New(rand.NewSource(6))
	for i := range 3000 {
		parts := someParts(r)
		turn := r.Intn(len(parts))
		var l []int
		for range 1 + i%3*r.Intn(40) {
			l = append(l, r.Intn(list(3, 100, most/80)[r.Intn(3)]))
		}
		got, next, e := tax.Shares(l, parts, turn)
		wantErr(t, "Shares", e, api.OK)
		should, now := make([]int, len(parts)), turn
		for _, n := range l {
			var shares []int
			shares, now = divide(n, parts, now)
			for who := range shares {
				should[who] += shares[who]
			}
		}
		wantShares(t, l, parts, turn, should, now)
		want(t, "the next turn", next, now)
		want(t, "P7.11: together", sum(got), sum(l))
		for who, n := range got {
			if parts[who] == 0 {
				want(t, "P7.11: a partner without a part", n, 0)
			}
			if !isNear(n, exact(sum(l), parts, who), len(l)) {
				t.Error("P7.11: exact shares:", l, parts, turn, got)
			}
		}
	}
}

// TestTurns is of P7.12.
func TestTurns(t *testing.T) {
	r := rand.New(rand.NewSource(7))
	for range 500 {
		parts := same(1+r.Intn(10), 1+r.Intn(1000))
		turn := r.Intn(len(parts))
		var l []int
		for range r.Intn(80) {
			l = append(l, r.Intn(30))
			got, next, e := tax.Shares(l, parts, turn)
			wantErr(t, "Shares", e, api.OK)
			want(t, "P7.12: whose turn it is", next, (turn+sum(l))%len(parts))
			for who, n := range got {
				should := (sum(l) + len(parts) - 1 - (who-turn+len(parts))%len(parts)) / len(parts)
				want(t, "P7.12: equal parts", n, should)
			}
		}
	}
}
