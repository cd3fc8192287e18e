package hire_test

import (
	"math"
	"math/rand"
	"slices"
	"testing"

	"pecia/api"
	"pecia/hire"
)

func swop(a, b int) api.Swop { return api.Swop{A: a, B: b} }

func found(c, piece int) api.Found { return api.Found{Case: c, Piece: piece} }

// shifted is the row of n cases each of which has the piece of the next one.
func shifted(n int) []int { return append(upTo(1, n-1), 0) }

// backAndForth is n times the same exchange.
func backAndForth(n int) []api.Swop { return slices.Repeat([]api.Swop{swop(0, 1)}, n) }

// wrongRows is lists that are no rows.
func wrongRows() map[string][]int {
	return map[string][]int{
		"nothing":        nil,
		"no cases":       {},
		"too many cases": upTo(0, api.MaxStock),
		"piece 1 of one": {1},
		"piece -1":       {0, -1, 2},
		"piece 3":        {0, 1, 3},
		"counted from 1": {1, 2, 3},
		"a piece twice":  {0, 2, 2},
		"all the same":   {0, 0, 0},
		"greatest piece": {0, 1, math.MaxInt},
		"least piece":    {math.MinInt, 1, 2},
	}
}

// wrongExchanges is exchanges that are none in a row of three cases, and their errors.
func wrongExchanges() map[string]struct {
	l []api.Swop
	e api.Errno
} {
	return map[string]struct {
		l []api.Swop
		e api.Errno
	}{
		"case -1":             {[]api.Swop{swop(-1, 0)}, api.ErrArg},
		"the other one -1":    {[]api.Swop{swop(0, -1)}, api.ErrArg},
		"case 3":              {[]api.Swop{swop(3, 0)}, api.ErrArg},
		"the other one 3":     {[]api.Swop{swop(0, 3)}, api.ErrArg},
		"one case":            {[]api.Swop{swop(1, 1)}, api.ErrArg},
		"one case 0":          {[]api.Swop{{}}, api.ErrArg},
		"one case 3":          {[]api.Swop{swop(3, 3)}, api.ErrArg},
		"greatest case":       {[]api.Swop{swop(0, math.MaxInt)}, api.ErrArg},
		"least case":          {[]api.Swop{swop(math.MinInt, 1)}, api.ErrArg},
		"a wrong one at last": {[]api.Swop{swop(0, 1), swop(1, 2), swop(2, 3)}, api.ErrArg},
		"too many":            {backAndForth(api.MaxTurns + 1), api.ErrLimit},
		"too many wrong ones": {make([]api.Swop, api.MaxTurns+1), api.ErrLimit},
		"a wrong one of most": {append(backAndForth(api.MaxTurns-1), swop(2, 2)), api.ErrArg},
	}
}

// TestCaseErrors is of P4.9 and P4.10.
func TestCaseErrors(t *testing.T) {
	for what, row := range wrongRows() {
		l, e := hire.Loops(row)
		check(t, "Loops: "+what, e, api.ErrArg, len(l) > 0)
		exchanges, e := hire.Restore(row)
		check(t, "Restore: "+what, e, api.ErrArg, len(exchanges) > 0)
		for _, wrong := range [][]api.Swop{nil, {swop(0, 0)}, {swop(0, 1)}, backAndForth(api.MaxTurns + 1)} {
			end, e := hire.Exchange(row, wrong)
			check(t, "Exchange: "+what, e, api.ErrArg, len(end) > 0)
			wantErr(t, "CheckRestore: "+what, hire.CheckRestore(row, wrong), api.ErrArg)
		}
	}
	for what, x := range wrongExchanges() {
		for _, row := range rows(3) {
			end, e := hire.Exchange(row, x.l)
			check(t, "Exchange: "+what, e, x.e, len(end) > 0)
			wantErr(t, "CheckRestore: "+what, hire.CheckRestore(row, x.l), x.e)
		}
	}
}

// TestLoops is of P4.9.
func TestLoops(t *testing.T) {
	for _, x := range []struct {
		row   []int
		loops [][]int
	}{
		{[]int{2, 0, 1, 4, 3, 5}, [][]int{{0, 2, 1}, {3, 4}, {5}}}, // the chapter's example
		{[]int{0}, [][]int{{0}}},
		{[]int{0, 1}, [][]int{{0}, {1}}},
		{[]int{1, 0}, [][]int{{0, 1}}},
		{[]int{0, 3, 4, 1, 2}, [][]int{{0}, {1, 3}, {2, 4}}},
		{[]int{4, 2, 1, 0, 3}, [][]int{{0, 4, 3}, {1, 2}}},
		{shifted(api.MaxStock), [][]int{upTo(0, api.MaxStock-1)}},
	} {
		l, e := hire.Loops(x.row)
		wantErr(t, "Loops", e, api.OK)
		want(t, "Loops", l, x.loops)
	}
	l, e := hire.Loops(upTo(0, api.MaxStock-1))
	if e != api.OK || len(l) != api.MaxStock || !slices.Equal(l[23], []int{23}) {
		t.Error("Loops of what is right", l, e)
	}
}

// TestLoopsAgree is of P4.9, for all rows of few cases.
func TestLoopsAgree(t *testing.T) {
	for n := 1; n <= 6; n++ {
		for _, row := range rows(n) {
			l, e := hire.Loops(row)
			wantErr(t, "Loops", e, api.OK)
			var all []int
			first := -1
			for _, loop := range l {
				if len(loop) == 0 {
					t.Fatal("an empty loop", row, l)
				}
				for i, c := range loop {
					if row[c] != loop[(i+1)%len(loop)] || c < loop[0] || loop[0] <= first {
						t.Error("Loops", row, l)
					}
				}
				first = loop[0]
				all = append(all, loop...)
			}
			slices.Sort(all)
			want(t, "the cases of Loops", all, upTo(0, n-1))
		}
	}
}

// TestExchange is of P4.9.
func TestExchange(t *testing.T) {
	for _, x := range []struct {
		row []int
		l   []api.Swop
		end []int
	}{
		{[]int{0}, nil, []int{0}},
		{[]int{2, 0, 1}, nil, []int{2, 0, 1}},
		{[]int{2, 0, 1}, []api.Swop{swop(0, 1)}, []int{0, 2, 1}},
		{[]int{2, 0, 1}, []api.Swop{swop(1, 0)}, []int{0, 2, 1}},
		{[]int{2, 0, 1}, []api.Swop{swop(0, 1), swop(1, 2)}, []int{0, 1, 2}},
		{[]int{2, 0, 1}, []api.Swop{swop(1, 2), swop(0, 1)}, []int{1, 2, 0}},
		{[]int{0, 1, 2}, []api.Swop{swop(0, 2), swop(2, 0)}, []int{0, 1, 2}},
		{[]int{3, 1, 0, 2}, []api.Swop{swop(0, 3)}, []int{2, 1, 0, 3}}, // what lies in the cases, not the pieces with these numbers
		{[]int{1, 0}, backAndForth(api.MaxTurns), []int{1, 0}},
		{[]int{1, 0}, backAndForth(api.MaxTurns - 1), []int{0, 1}},
	} {
		end, e := hire.Exchange(x.row, x.l)
		wantErr(t, "Exchange", e, api.OK)
		want(t, "Exchange", end, x.end)
	}
}

// TestRestore is of P4.10: exchanges are as few as there are cases, less the loops, and behind them all are right.
func TestRestore(t *testing.T) {
	for _, x := range []struct {
		row []int
		n   int
	}{
		{[]int{0}, 0}, {[]int{0, 1, 2}, 0}, {upTo(0, api.MaxStock-1), 0},
		{[]int{2, 0, 1, 4, 3, 5}, 3}, {[]int{1, 0}, 1}, {shifted(api.MaxStock), 23}, {[]int{1, 0, 3, 2}, 2},
	} {
		wantRestored(t, x.row, x.n)
	}
	for n := 1; n <= 6; n++ {
		for _, row := range rows(n) {
			wantRestored(t, row, n-loops(row))
		}
	}
}

func wantRestored(t *testing.T, row []int, n int) {
	t.Helper()
	l, e := hire.Restore(row)
	wantErr(t, "Restore", e, api.OK)
	for _, x := range l {
		if min(x.A, x.B) < 0 || max(x.A, x.B) >= len(row) || x.A == x.B {
			t.Fatal("Restore", row, l)
		}
	}
	if len(l) != n || !slices.IsSorted(behindExchanges(row, l)) {
		t.Error("Restore", row, l, "want", n)
	}
	wantErr(t, "CheckRestore of Restore", hire.CheckRestore(row, l), api.OK)
}

// TestCheckRestore is of P4.10.
func TestCheckRestore(t *testing.T) {
	row := []int{2, 0, 1, 4, 3, 5}
	for _, x := range []struct {
		l []api.Swop
		e api.Errno
	}{
		{[]api.Swop{swop(0, 1), swop(1, 2), swop(3, 4)}, api.OK},
		{[]api.Swop{swop(4, 3), swop(1, 0), swop(2, 1)}, api.OK},
		{[]api.Swop{swop(1, 2), swop(0, 2), swop(3, 4)}, api.OK},
		{[]api.Swop{swop(1, 2), swop(0, 1), swop(3, 4)}, api.ErrProof},
		{[]api.Swop{swop(0, 1), swop(1, 2)}, api.ErrProof},
		{[]api.Swop{swop(0, 1), swop(1, 2), swop(3, 5)}, api.ErrProof},
		{nil, api.ErrProof},
		{[]api.Swop{swop(0, 1), swop(1, 2), swop(3, 4), swop(0, 5), swop(0, 5)}, api.ErrProof}, // more than there must be
		{[]api.Swop{swop(0, 1), swop(1, 2), swop(3, 5), swop(3, 4), swop(4, 5)}, api.ErrProof},
	} {
		wantErr(t, "CheckRestore", hire.CheckRestore(row, x.l), x.e)
	}
	wantErr(t, "CheckRestore of what is right", hire.CheckRestore([]int{0, 1}, nil), api.OK)
	wantErr(t, "CheckRestore of what is right", hire.CheckRestore([]int{0, 1}, backAndForth(2)), api.ErrProof)
	wantErr(t, "CheckRestore, as many as can be", hire.CheckRestore([]int{0, 1}, backAndForth(api.MaxTurns)), api.ErrProof)
	wantErr(t, "CheckRestore of one", hire.CheckRestore([]int{0}, nil), api.OK)
}

// TestCheckRestoreAgrees is of P4.10 and P4.17, by trying all exchanges in few cases.
func TestCheckRestoreAgrees(t *testing.T) {
	for n := 2; n <= 4; n++ {
		var all []api.Swop
		for a := range n {
			for b := range n {
				if a != b {
					all = append(all, swop(a, b))
				}
			}
		}
		for _, row := range rows(n) {
			least := -1 // the fewest exchanges behind which all are right
			lists := [][]api.Swop{nil}
			for size := 0; size <= 3; size++ {
				for _, l := range lists {
					right := slices.IsSorted(behindExchanges(row, l))
					if right && least < 0 {
						least = size
					}
					should := api.ErrProof
					if right && least == size {
						should = api.OK
					}
					if e := hire.CheckRestore(row, l); e != should {
						t.Error("CheckRestore", row, l, e, should)
					}
				}
				var longer [][]api.Swop
				for _, l := range lists {
					for _, x := range all {
						longer = append(longer, append(slices.Clone(l), x))
					}
				}
				lists = longer
			}
			l, e := hire.Restore(row)
			if e != api.OK || len(l) != least {
				t.Error("Restore", row, l, e, least)
			}
		}
	}
}

// TestExplain is of P4.11.
func TestExplain(t *testing.T) {
	for _, x := range []struct {
		cases int
		l     []api.Found
		row   []int
		n     int
	}{
		{4, []api.Found{found(0, 1), found(1, 2)}, []int{1, 2, 0, 3}, 2}, // the chapter's example
		{1, nil, []int{0}, 0},
		{1, []api.Found{found(0, 0)}, []int{0}, 0},
		{3, nil, []int{0, 1, 2}, 0},
		{3, []api.Found{found(2, 0)}, []int{2, 1, 0}, 1},
		{3, []api.Found{found(1, 1)}, []int{0, 1, 2}, 0},
		{4, []api.Found{found(0, 1), found(2, 3)}, []int{1, 0, 3, 2}, 2},
		{4, []api.Found{found(2, 3), found(3, 0), found(0, 1)}, []int{1, 2, 3, 0}, 3},
		{5, []api.Found{found(3, 1), found(1, 4)}, []int{0, 4, 2, 1, 3}, 2},
		{2, []api.Found{found(0, 1), found(1, 0)}, []int{1, 0}, 1},
		{api.MaxStock, nil, upTo(0, 23), 0},
		{api.MaxStock, []api.Found{found(23, 0)}, append(append([]int{23}, upTo(1, 22)...), 0), 1},
	} {
		row, n, e := hire.Explain(x.cases, x.l)
		wantErr(t, "Explain", e, api.OK)
		want(t, "Explain", row, x.row)
		want(t, "Explain", n, x.n)
	}
	var l []api.Found
	for c := range api.MaxStock {
		l = append(l, found(c, (c+1)%api.MaxStock))
	}
	row, n, e := hire.Explain(api.MaxStock, l)
	wantErr(t, "Explain of most", e, api.OK)
	want(t, "Explain of most", row, shifted(api.MaxStock))
	want(t, "Explain of most", n, 23)
}

// TestExplainErrors is of P4.11.
func TestExplainErrors(t *testing.T) {
	tooMany := slices.Repeat([]api.Found{found(0, 0)}, api.MaxStock+1)
	for what, x := range map[string]struct {
		cases int
		l     []api.Found
		e     api.Errno
	}{
		"no cases":               {0, nil, api.ErrArg},
		"cases -1":               {-1, nil, api.ErrArg},
		"too many cases":         {api.MaxStock + 1, nil, api.ErrArg},
		"most cases":             {math.MaxInt, nil, api.ErrArg},
		"least cases":            {math.MinInt, []api.Found{found(0, 0)}, api.ErrArg},
		"no cases, too many":     {0, tooMany, api.ErrArg},
		"too many":               {3, tooMany, api.ErrLimit},
		"too many wrong ones":    {3, slices.Repeat([]api.Found{found(-1, 9)}, api.MaxStock+1), api.ErrLimit},
		"case -1":                {3, []api.Found{found(-1, 0)}, api.ErrArg},
		"case 3":                 {3, []api.Found{found(3, 0)}, api.ErrArg},
		"piece -1":               {3, []api.Found{found(0, -1)}, api.ErrArg},
		"piece 3":                {3, []api.Found{found(0, 3)}, api.ErrArg},
		"greatest case":          {3, []api.Found{found(math.MaxInt, 0)}, api.ErrArg},
		"least piece":            {3, []api.Found{found(0, math.MinInt)}, api.ErrArg},
		"a case twice":           {3, []api.Found{found(0, 1), found(0, 2)}, api.ErrClash},
		"a piece twice":          {3, []api.Found{found(0, 1), found(2, 1)}, api.ErrClash},
		"the same twice":         {3, []api.Found{found(0, 1), found(0, 1)}, api.ErrClash},
		"a case twice, later":    {3, []api.Found{found(0, 1), found(1, 0), found(0, 2)}, api.ErrClash},
		"case 0, piece 0, twice": {3, []api.Found{found(0, 0), found(0, 1)}, api.ErrClash},
		"piece 0 twice":          {3, []api.Found{found(0, 0), found(1, 0)}, api.ErrClash},
		"clash, then wrong":      {3, []api.Found{found(0, 1), found(0, 2), found(3, 0)}, api.ErrClash},
		"wrong, then clash":      {3, []api.Found{found(0, 1), found(3, 0), found(0, 2)}, api.ErrArg},
		"clash and wrong":        {3, []api.Found{found(0, 1), found(0, 3)}, api.ErrArg},
		"wrong and clash":        {3, []api.Found{found(0, 1), found(-1, 1)}, api.ErrArg},
		"more than cases":        {1, []api.Found{found(0, 0), found(0, 0)}, api.ErrClash},
	} {
		row, n, e := hire.Explain(x.cases, x.l)
		check(t, what, e, x.e, len(row) > 0 || n != 0)
	}
}

// TestExplainAgrees is of P4.11, by trying all rows of few cases: of those with what was found just one needs the fewest exchanges.
func TestExplainAgrees(t *testing.T) {
	r := rand.New(rand.NewSource(11))
	for n := 1; n <= 5; n++ {
		all := rows(n)
		for _, truly := range all {
			for _, cases := range subsets(n) {
				var l []api.Found
				for _, c := range cases {
					l = append(l, found(c, truly[c]))
				}
				r.Shuffle(len(l), func(i, j int) { l[i], l[j] = l[j], l[i] })
				var best []int
				for _, row := range all {
					fits := !slices.ContainsFunc(l, func(x api.Found) bool { return row[x.Case] != x.Piece })
					if fits && (best == nil || loops(row) > loops(best)) {
						best = row
					}
				}
				row, k, e := hire.Explain(n, l)
				if e != api.OK || !slices.Equal(row, best) || k != n-loops(best) {
					t.Error("Explain", n, l, row, k, e, best)
				}
			}
		}
	}
}
