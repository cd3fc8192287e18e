package slip_test

import (
	"math/rand"
	"reflect"
	"slices"
	"testing"

	"pecia/api"
	"pecia/slip"
)

// TestProofsAgree is of P2.3 and P2.11: CheckBest accepts what Best returns, and of no other cost.
func TestProofsAgree(t *testing.T) {
	someCopyings(60, 30, func(c api.Copying) {
		a := bestOf(t, c)
		wantErr(t, "CheckBest", slip.CheckBest(c, a), api.OK)
		want(t, "Least", leastOf(t, c), a.Cost)
		cost, is, e := slip.Explains(c, a.Slips)
		if e != api.OK || !is || cost != a.Cost {
			t.Error("Explains", c, a, cost, is, e)
		}
		// A list that costs more, with a number of the table to suit it.
		more := append([]api.Slip{add(0, 0, 1)}, a.Slips...)
		for i := range more[1:] {
			more[1+i].In++
		}
		c.Copy = append([]int{1}, c.Copy...)
		cost, is, e = slip.Explains(c, more)
		wantErr(t, "Explains", e, api.OK)
		want(t, "Explains", is, true)
		b := bestOf(t, c)
		if cost > b.Cost {
			b.Slips, b.Cost = more, cost
			b.Table[len(c.Text)][len(c.Copy)] = cost
			wantErr(t, "CheckBest of a list that costs more", slip.CheckBest(c, b), api.ErrProof)
		}
	})
}

// TestSureAgree is of P2.12: sure and possible slips, Made and Missed, and a cheapest list belong together.
func TestSureAgree(t *testing.T) {
	sures := 0
	someCopyings(20, 8, func(c api.Copying) {
		sure, e := slip.Surely(c)
		wantErr(t, "Surely", e, api.OK)
		possible, e := slip.Possibly(c)
		wantErr(t, "Possibly", e, api.OK)
		best := bestOf(t, c).Slips
		for _, s := range sure {
			if !slices.Contains(possible, s) || !slices.Contains(best, s) {
				t.Error("a sure slip is missing:", c, s)
			}
		}
		sures += len(sure)
		for _, s := range best {
			if !slices.Contains(possible, s) {
				t.Error("a slip of a cheapest list is not possible:", c, s)
			}
		}
		for i := range len(c.Text) + 1 {
			for j := range len(c.Copy) + 1 {
				l, e := slip.Slips(c, i, j)
				wantErr(t, "Slips", e, api.OK)
				for _, s := range l {
					slipAgrees(t, c, s, slices.Contains(sure, s), slices.Contains(possible, s))
				}
			}
		}
	})
	if sures < 10 {
		t.Error("too few sure slips:", sures)
	}
}

func slipAgrees(t *testing.T, c api.Copying, s api.Slip, sure, possible bool) {
	t.Helper()
	made, e := slip.Made(c, s)
	missed, f := slip.Missed(c, s)
	if e != api.OK || possible != (made == 0) || sure != (f == api.ErrNone || missed > 0) {
		t.Error("Made, Missed:", c, s, sure, possible, made, e, missed, f)
	}
	if f == api.OK && made != 0 && missed != 0 {
		t.Error("neither costs as little as the least:", c, s, made, missed)
	}
}

// TestMendAgrees is of P2.8 and P2.13.
func TestMendAgrees(t *testing.T) {
	r := rand.New(rand.NewSource(13))
	mendings := 0
	someCopyings(600, 8, func(c api.Copying) {
		made, l, cost := someCopy(r, c, 20, 4, 40)
		c.Copy = made
		for len(l) > 0 {
			k := r.Intn(len(l))
			price, e := slip.Price(c, l[k])
			wantErr(t, "Price", e, api.OK)
			mended, left, e := slip.Mend(c, l, k)
			wantErr(t, "Mend", e, api.OK)
			if e != api.OK {
				return
			}
			less, is, e := slip.Explains(mended, left)
			if e != api.OK || !is || less != cost-price || len(left) != len(l)-1 {
				t.Error("Mend", c, l, k, mended, left, less)
			}
			for i, s := range slices.Delete(slices.Clone(l), k, k+1) {
				s.In = left[i].In
				want(t, "a slip that is left", left[i], s)
			}
			wantCopying(t, "all but the copy", mended, withCopy(c, mended.Copy))
			c, l, cost = mended, left, less
			mendings++
		}
		want(t, "all mended", c.Copy, c.Text)
		want(t, "all mended", cost, 0)
	})
	if mendings < 300 {
		t.Error("too few mendings:", mendings)
	}
}

// withCopy is a copying with another copy.
func withCopy(c api.Copying, copy []int) api.Copying {
	c.Copy = copy
	return c
}

// TestDearerAgrees is of P2.9 and P2.14.
func TestDearerAgrees(t *testing.T) {
	r := rand.New(rand.NewSource(14))
	dearerOnes := 0
	someCopyings(150, 10, func(c api.Copying) {
		a := bestOf(t, c)
		for kind := api.SlMix; kind <= api.SlAdd; kind++ {
			more, n := r.Intn(5), 0
			for _, s := range a.Slips {
				if s.Kind == kind {
					n++
				}
			}
			dearer, e := slip.Dearer(c, kind, more)
			wantErr(t, "Dearer", e, api.OK)
			least := leastOf(t, dearer)
			if least < a.Cost || least > a.Cost+n*more {
				t.Error("Dearer", c, kind, more, a.Cost, least)
			}
			if least > a.Cost {
				dearerOnes++
			}
		}
	})
	if dearerOnes < 50 {
		t.Error("too few dearer copyings:", dearerOnes)
	}
}

// TestTrueCopies is of P2.15.
func TestTrueCopies(t *testing.T) {
	r := rand.New(rand.NewSource(15))
	free := 0
	someCopyings(200, 14, func(c api.Copying) {
		made, l, cost := someCopy(r, c, api.MaxLong, 4, 25)
		c.Copy = made
		least := leastOf(t, c)
		if least > cost {
			t.Error("slips made the copy, and cost less:", c, l, cost, least)
		}
		if (least == 0) != slices.Equal(c.Copy, c.Text) {
			t.Error("the copy costs", least, c)
		}
		if least == 0 {
			free++
		}
	})
	if free < 10 {
		t.Error("too few copies that are the text:", free)
	}
}

// TestPlacesAgree is of P2.16: a cheapest list comes to places within Places, and keeps the words that all lists keep.
func TestPlacesAgree(t *testing.T) {
	wide := 0
	someCopyings(60, 20, func(c api.Copying) {
		places, kept := follow(c, bestOf(t, c).Slips)
		var before api.Span
		for at := range len(c.Text) + 1 {
			span, e := slip.Places(c, at)
			wantErr(t, "Places", e, api.OK)
			j := comesTo(list{places: places}, at)
			if j < span.Lo || j > span.Hi || span.Lo < before.Lo || span.Hi < before.Hi || span.Hi > len(c.Copy) {
				t.Error("Places", c, at, j, span, before)
			}
			if span.Lo < span.Hi {
				wide++
			}
			before = span
		}
		all, some, e := slip.Kept(c)
		wantErr(t, "Kept", e, api.OK)
		for _, word := range all {
			if !slices.Contains(kept, word) {
				t.Error("a word that all lists keep is not kept:", c, word)
			}
		}
		for _, word := range kept {
			if !slices.Contains(some, word) {
				t.Error("a word that a list keeps is kept by none:", c, word)
			}
		}
	})
	if wide < 20 {
		t.Error("too few wide places:", wide)
	}
}

// follow is the places on a list that explains a copying, and the words that it keeps.
func follow(c api.Copying, l []api.Slip) (places [][2]int, kept []int) {
	i, j := 0, 0
	places = [][2]int{{0, 0}}
	keepUpTo := func(at int) {
		for i < at {
			kept = append(kept, i)
			i, j = i+1, j+1
			places = append(places, [2]int{i, j})
		}
	}
	for _, s := range l {
		keepUpTo(s.At)
		to, writes, _, _ := effect(c, s)
		i, j = to, j+len(writes)
		places = append(places, [2]int{i, j})
	}
	keepUpTo(len(c.Text))
	return places, kept
}

// TestSecondAgrees is of P2.18 and P2.20, for copyings of many words: Second is greater than Least, and a list costs it.
func TestSecondAgrees(t *testing.T) {
	someCopyings(20, 8, func(c api.Copying) {
		least := leastOf(t, c)
		second, e := slip.Second(c)
		if e != api.OK {
			check(t, "Second", e, api.ErrNone, second != 0)
			return
		}
		if second <= least {
			t.Error("Second", c, least, second)
		}
		for i := range len(c.Text) + 1 {
			for j := range len(c.Copy) + 1 {
				l, _ := slip.Slips(c, i, j)
				for _, s := range l {
					made, e := slip.Made(c, s)
					wantErr(t, "Made", e, api.OK)
					missed, f := slip.Missed(c, s)
					if made > 0 && least+made < second || f == api.OK && missed > 0 && least+missed < second {
						t.Error("a list costs less than Second, and more than Least:", c, s, least, second, made, missed)
					}
				}
			}
		}
	})
}

// results is what all functions with a copying tell of one, as values that own their memory.
func results(c api.Copying, l []api.Slip, texts [][]int) []any {
	at, in := len(c.Text)/2, len(c.Copy)/2
	slips, _ := slip.Slips(c, at, in)
	made, _ := slip.Write(c, l)
	best, _ := slip.Best(c)
	sure, _ := slip.Surely(c)
	possible, _ := slip.Possibly(c)
	all, some, _ := slip.Kept(c)
	mended, left, _ := slip.Mend(c, l, 0)
	shared, _ := slip.Shared(l, l)
	dearer, _ := slip.Dearer(c, api.SlMix, 1)
	first, second, _ := slip.Cut(c, at, in)
	nearest, _, _ := slip.Nearest(c, texts)
	text, _ := slip.Print(l)
	parsed, _, _ := slip.Parse(text)
	slip.CheckBest(c, best)
	slip.Explains(c, l)
	slip.Count(c)
	slip.Second(c)
	return []any{slips, made, best, sure, possible, all, some, mended, left, shared, dearer, first, second, nearest, parsed}
}

// TestMemory is of R6 and R7: arguments stay as they are, results share no memory, and the same call has the same result.
func TestMemory(t *testing.T) {
	c := example()
	c.Glosses = []api.Gloss{{At: 3, Words: []int{11, 12}}, {At: 5, Words: []int{1}}}
	l, texts := exampleList(), [][]int{{5, 7, 8, 6}, {5, 7}}
	kept, keptL, keptTexts := cloneCopying(c), slices.Clone(l), [][]int{{5, 7, 8, 6}, {5, 7}}
	should := results(c, l, texts)
	again := results(c, l, texts)
	want(t, "the same calls", again, should)
	owned := slicesOf(reflect.ValueOf(again))
	for i, v := range owned {
		fill(v, 1000+i)
	}
	for i, v := range owned {
		if !isFilled(v, 1000+i) {
			t.Error("results share memory:", v)
		}
	}
	wantCopying(t, "the copying", c, kept)
	want(t, "the list", l, keptL)
	want(t, "the texts", texts, keptTexts)
	want(t, "the results", results(c, l, texts), should)
}

// slicesOf is all slices within a value, but for those of slices.
func slicesOf(v reflect.Value) []reflect.Value {
	var l []reflect.Value
	switch v.Kind() {
	case reflect.Interface:
		return slicesOf(v.Elem())
	case reflect.Slice:
		if k := v.Type().Elem().Kind(); k == reflect.Int || k == reflect.Struct {
			l = append(l, v)
		}
		for i := range v.Len() {
			l = append(l, slicesOf(v.Index(i))...)
		}
	case reflect.Struct:
		for i := range v.NumField() {
			l = append(l, slicesOf(v.Field(i))...)
		}
	}
	return l
}

// fill sets what a slice has, and what it has room for besides, to a number, or to structs that begin with it.
func fill(v reflect.Value, n int) {
	for i := range v.Cap() {
		numberOf(v.Slice(0, v.Cap()).Index(i)).SetInt(int64(n))
	}
}

func isFilled(v reflect.Value, n int) bool {
	for i := range v.Len() {
		if numberOf(v.Index(i)).Int() != int64(n) {
			return false
		}
	}
	return true
}

func numberOf(v reflect.Value) reflect.Value {
	if v.Kind() == reflect.Struct {
		return v.Field(0)
	}
	return v
}
