package tax_test

import (
	"math/rand"
	"testing"

	"pecia/api"
	"pecia/tax"
)

func terms(free, perDay, most, forfeit int) api.Terms {
	return api.Terms{Free: free, PerDay: perDay, Most: most, Forfeit: forfeit}
}

// TestTerms is of P7.5.
func TestTerms(t *testing.T) {
	const high = 1 << 20
	right := []api.Terms{
		{}, terms(3, 2, 9, 30), terms(30, 2, 9, 30), terms(730, high, high, 730), terms(0, high, 0, 730), terms(0, 0, high, 0),
	}
	for _, x := range right {
		_, e := tax.Fine(x, 0)
		wantErr(t, x, e, api.OK)
		_, e = tax.Bill(x, 0, 0, 0, 730)
		wantErr(t, x, e, api.OK)
	}
	wrong := []api.Terms{
		terms(-1, 2, 9, 30), terms(31, 2, 9, 30), terms(1, 2, 9, 0), terms(3, 2, 9, 731), terms(731, 2, 9, 731), terms(731, 2, 9, 730),
		terms(3, -1, 9, 30), terms(3, high+1, 9, 30), terms(3, 2, -1, 30), terms(3, 2, high+1, 30), terms(0, 0, 0, -1), terms(-2, 0, 0, -1),
	}
	for _, n := range far() {
		wrong = append(wrong, terms(n, 2, 9, 30), terms(3, n, 9, 30), terms(3, 2, n, 30), terms(3, 2, 9, n), terms(n, n, n, n))
	}
	for _, x := range wrong {
		for _, late := range list(-1, 0, 5, 731) {
			n, e := tax.Fine(x, late)
			check(t, x, e, api.ErrArg, n != 0)
			c, e := tax.Bill(x, 5, 5, 5, late)
			check(t, x, e, api.ErrArg, c != api.Charge{})
		}
	}
}

func wantFine(t *testing.T, x api.Terms, late, should int) {
	t.Helper()
	n, e := tax.Fine(x, late)
	wantErr(t, "Fine", e, api.OK)
	want(t, "Fine", n, should)
}

// TestFine is of P7.5.
func TestFine(t *testing.T) {
	x := terms(3, 2, 9, 30)
	for late, should := range list(0, 0, 0, 0, 2, 4, 6, 8, 9, 9) {
		wantFine(t, x, late, should)
	}
	wantFine(t, x, 20, 9)
	wantFine(t, x, 730, 9)
	wantFine(t, terms(0, 2, 1<<20, 30), 1, 2)
	wantFine(t, terms(0, 1000, 1<<20, 0), 730, 730000)
	wantFine(t, terms(0, 1<<20, 1<<20, 0), 730, 1<<20)
	wantFine(t, terms(729, 7, 1<<20, 730), 730, 7)
	wantFine(t, terms(730, 7, 1<<20, 730), 730, 0)
	wantFine(t, terms(0, 7, 0, 0), 730, 0)
	wantFine(t, terms(0, 0, 9, 0), 730, 0)
	for _, late := range append(far(), 731) {
		n, e := tax.Fine(x, late)
		check(t, late, e, api.ErrArg, n != 0)
	}
}

func wantBill(t *testing.T, x api.Terms, price, pledge, weeks, late, hire, fine, lost int) {
	t.Helper()
	c, e := tax.Bill(x, price, pledge, weeks, late)
	wantErr(t, "Bill", e, api.OK)
	want(t, "Bill", c, api.Charge{Hire: hire, Fine: fine, Pledge: lost})
}

// TestBill is of P7.5.
func TestBill(t *testing.T) {
	const high = 1 << 20
	x := terms(3, 2, 9, 30)
	wantBill(t, x, 5, 100, 1, 0, 5, 0, 0)
	wantBill(t, x, 5, 100, 4, 3, 20, 0, 0)
	wantBill(t, x, 5, 100, 4, 5, 20, 4, 0)
	wantBill(t, x, 5, 100, 4, 30, 20, 9, 0)
	wantBill(t, x, 5, 100, 4, 31, 20, 9, 100)
	wantBill(t, x, 5, 100, 0, 730, 0, 9, 100)
	wantBill(t, x, 0, 0, 40, 730, 0, 9, 0)
	wantBill(t, x, high, high, 40, 730, 40*high, 9, high)
	wantBill(t, terms(0, 2, 9, 0), 1, 7, 1, 0, 1, 0, 0)
	wantBill(t, terms(0, 2, 9, 0), 1, 7, 1, 1, 1, 2, 7)
	wantBill(t, terms(730, 2, 9, 730), 1, 7, 1, 730, 1, 0, 0)
	for _, n := range append(far(), high+1) {
		for _, l := range [][]int{{n, 5, 5, 5}, {5, n, 5, 5}, {5, 5, n, 5}, {5, 5, 5, n}} {
			c, e := tax.Bill(x, l[0], l[1], l[2], l[3])
			check(t, l, e, api.ErrArg, c != api.Charge{})
		}
	}
	for _, l := range [][]int{{5, 5, 41, 5}, {5, 5, 5, 731}} {
		c, e := tax.Bill(x, l[0], l[1], l[2], l[3])
		check(t, l, e, api.ErrArg, c != api.Charge{})
	}
}

// someTerms is any terms that are right.
func someTerms(r *rand.Rand) api.Terms {
	forfeit := r.Intn(40)
	return terms(r.Intn(forfeit+1), r.Intn(5), r.Intn(40), forfeit)
}

// TestLater is of P7.5, day by day; and of P7.10.
func TestLater(t *testing.T) {
	r := rand.New(rand.NewSource(5))
	for range 300 {
		x := someTerms(r)
		price, pledge, weeks, fine := r.Intn(10), r.Intn(10), r.Intn(41), 0
		before := 0
		for late := range 60 {
			if late > x.Free {
				fine += x.PerDay
			}
			lost := 0
			if late > x.Forfeit {
				lost = pledge
			}
			wantFine(t, x, late, min(fine, x.Most))
			wantBill(t, x, price, pledge, weeks, late, price*weeks, min(fine, x.Most), lost)
			c, _ := tax.Bill(x, price+r.Intn(2), pledge+r.Intn(2), min(weeks+r.Intn(2), 40), late)
			if c.Hire < price*weeks || c.Fine < min(fine, x.Most) || c.Pledge < lost || c.Hire+c.Fine+c.Pledge < before {
				t.Error("P7.10: a later hire costs less:", x, late, c)
			}
			before = price*weeks + min(fine, x.Most) + lost
		}
	}
}
