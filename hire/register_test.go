package hire_test

import (
	"math"
	"math/rand"
	"strconv"
	"testing"

	"pecia/api"
	"pecia/hire"
)

// manyTurns is so many turns, of one scribe and the piece 5.
func manyTurns(n int) []api.Turn {
	var l []api.Turn
	for i := range n {
		if i%2 == 0 {
			l = append(l, asks(i, 0, 5))
		} else {
			l = append(l, quits(i, 0, 5))
		}
	}
	return l
}

// A registerCase is a register, its error, and the index of its turn.
type registerCase struct {
	h  api.Hires
	e  api.Errno
	at int
}

// wrongStocks is registers that have an error whatever their turns are.
func wrongStocks() map[string]registerCase {
	most := upTo(1, api.MaxStock)
	l := map[string]registerCase{
		"nothing":                    {api.Hires{}, api.ErrArg, -1},
		"no pieces":                  {register(1, nil), api.ErrArg, -1},
		"no pieces, turns":           {register(1, nil, asks(0, 0, 5)), api.ErrArg, -1},
		"too many pieces":            {register(1, append(most, 99)), api.ErrLimit, -1},
		"too many pieces, and wrong": {register(0, make([]int, api.MaxStock+1)), api.ErrLimit, -1},
		"too many turns":             {register(1, []int{5}, manyTurns(api.MaxTurns+1)...), api.ErrLimit, -1},
		"too many wrong turns":       {register(1, []int{5}, make([]api.Turn, api.MaxTurns+1)...), api.ErrLimit, -1},
		"too many turns, no pieces":  {register(1, nil, manyTurns(api.MaxTurns+1)...), api.ErrLimit, -1},
		"too many turns, ID 0":       {register(1, []int{0}, manyTurns(api.MaxTurns+1)...), api.ErrLimit, -1},
		"too many turns, no scribes": {register(0, []int{5, 5}, manyTurns(api.MaxTurns+1)...), api.ErrLimit, -1},
		"an ID twice":                {register(1, []int{5, 6, 5}), api.ErrTwice, -1},
		"an ID twice at once":        {register(1, []int{5, 5, 6}), api.ErrTwice, -1},
		"twice, then ID 0":           {register(1, []int{5, 5, 0}), api.ErrArg, -1},
		"twice, no scribes":          {register(0, []int{5, 5}), api.ErrArg, -1},
		"twice, too many scribes":    {register(api.MaxScribes+1, []int{5, 5}), api.ErrArg, -1},
		"twice, a wrong turn":        {register(1, []int{5, 5}, api.Turn{}), api.ErrTwice, -1},
		"no scribes, a wrong turn":   {register(0, []int{5}, api.Turn{}), api.ErrArg, -1},
	}
	for _, id := range []int{0, -1, api.MaxID + 1, math.MinInt, math.MaxInt} {
		for i := range 3 {
			h := example()
			h.Pieces[i] = id
			l["wrong ID at "+strconv.Itoa(i)] = registerCase{h, api.ErrArg, -1}
		}
		l["just a wrong ID"] = registerCase{register(1, []int{id}), api.ErrArg, -1}
	}
	for what, n := range map[string]int{"scribes 0": 0, "scribes -1": -1, "scribes 17": api.MaxScribes + 1, "most scribes": math.MaxInt, "least scribes": math.MinInt} {
		h := example()
		h.Scribes = n
		l[what] = registerCase{h, api.ErrArg, -1}
		l[what+", no turns"] = registerCase{register(n, []int{5}), api.ErrArg, -1}
	}
	return l
}

// unformedTurns is turns that are not formed in the example's register.
func unformedTurns() map[string]api.Turn {
	l := map[string]api.Turn{
		"nothing":                 {},
		"no kind":                 {Day: 9, Piece: 101},
		"kind -1":                 {Kind: -1, Day: 9, Piece: 101},
		"kind 6":                  {Kind: 6, Day: 9, Piece: 101},
		"kind 6, a hire":          {Kind: 6, Day: 9, Piece: 101, Weeks: 1},
		"kind 0, a swap":          {Day: 9, Other: 1},
		"greatest kind":           {Kind: math.MaxInt, Day: 9, Piece: 101},
		"hire for no weeks":       hires(9, 1, 101, 0),
		"hire for -1 weeks":       hires(9, 1, 101, -1),
		"hire for 41 weeks":       hires(9, 1, 101, api.MaxWeeks+1),
		"hire for most weeks":     hires(9, 1, 101, math.MaxInt),
		"hire for least weeks":    hires(9, 1, 101, math.MinInt),
		"hire with another one":   {Kind: api.TuHire, Day: 9, Scribe: 1, Piece: 101, Weeks: 1, Other: 2},
		"swap with itself":        swaps(9, 1, 1),
		"swap with 0 of 0":        swaps(9, 0, 0),
		"swap with -1":            swaps(9, 1, -1),
		"swap with 3":             swaps(9, 1, 3),
		"swap with the greatest":  swaps(9, 1, math.MaxInt),
		"swap with the least":     swaps(9, 1, math.MinInt),
		"swap with a piece":       {Kind: api.TuSwap, Day: 9, Scribe: 0, Other: 2, Piece: 101},
		"swap for weeks":          {Kind: api.TuSwap, Day: 9, Scribe: 0, Other: 2, Weeks: 1},
		"swap, with piece 0 of 9": {Kind: api.TuSwap, Day: 9, Scribe: 0, Other: 2, Piece: 9},
	}
	for what, kind := range map[string]int{"ask": api.TuAsk, "quit": api.TuQuit, "bring": api.TuBack, "hire": api.TuHire, "swap": api.TuSwap} {
		x := api.Turn{Kind: kind, Day: 9, Scribe: 1, Piece: 101}
		switch kind {
		case api.TuHire:
			x.Weeks = 1
		case api.TuSwap:
			x.Piece, x.Other = 0, 2
		default:
			for more, y := range map[string]api.Turn{", weeks": {Weeks: 1}, ", less than no weeks": {Weeks: -1}, ", another one": {Other: 2}, ", other -1": {Other: -1}} {
				y.Kind, y.Day, y.Scribe, y.Piece = x.Kind, x.Day, x.Scribe, x.Piece
				l[what+more] = y
			}
		}
		for more, day := range map[string]int{", day -1": -1, ", day 731": api.MaxDay + 1, ", greatest day": math.MaxInt, ", least day": math.MinInt} {
			y := x
			y.Day = day
			l[what+more] = y
		}
		for more, scribe := range map[string]int{", scribe -1": -1, ", scribe 3": 3, ", greatest scribe": math.MaxInt, ", least scribe": math.MinInt} {
			y := x
			y.Scribe = scribe
			l[what+more] = y
		}
		if kind == api.TuSwap {
			continue
		}
		for more, piece := range map[string]int{", no piece": 0, ", piece -101": -101, ", piece 104": 104, ", greatest piece": math.MaxInt} {
			y := x
			y.Piece = piece
			l[what+more] = y
		}
	}
	return l
}

// impossibleTurns is turns that are formed, and not possible behind those of the example's register.
func impossibleTurns() map[string]api.Turn {
	return map[string]api.Turn{
		"ask for its own piece":         asks(5, 1, 102),
		"ask once more":                 asks(5, 0, 102),
		"ask once more, not first":      asks(6, 2, 101),
		"ask too early":                 asks(4, 2, 102),
		"quit what it holds":            quits(5, 1, 102),
		"quit what it did not ask for":  quits(5, 1, 103),
		"quit what others wait for":     quits(9, 2, 102),
		"quit too early":                quits(0, 0, 102),
		"hire what is held":             hires(5, 2, 101, 1),
		"hire what it holds":            hires(5, 2, 103, 1),
		"hire a further one":            hires(9, 0, 103, 1),
		"bring what another one holds":  brings(9, 0, 102),
		"bring what it waits for":       brings(9, 2, 101),
		"bring too early":               brings(4, 2, 103),
		"swap for what it waits for":    swaps(9, 2, 0),
		"swap, the other one waits":     swaps(9, 0, 2),
		"swap, both wait":               swaps(9, 0, 1),
		"swap too early":                swaps(4, 1, 2),
		"swap, day 0":                   swaps(0, 1, 2),
		"ask on the day 0, too early":   asks(0, 1, 103),
		"hire once more, on a late day": hires(api.MaxDay, 0, 101, api.MaxWeeks),
	}
}

// wrongTurns is the example's register with one more turn that is wrong.
func wrongTurns() map[string]registerCase {
	l := map[string]registerCase{}
	with := func(what string, e api.Errno, turns ...api.Turn) {
		h := example()
		h.Turns = append(h.Turns, turns...)
		l[what] = registerCase{h, e, 6}
	}
	for what, x := range unformedTurns() {
		with("unformed: "+what, api.ErrForm, x)
		with("unformed, then impossible: "+what, api.ErrForm, x, asks(0, 0, 102))
	}
	for what, x := range impossibleTurns() {
		with("impossible: "+what, api.ErrState, x)
		with("impossible, then unformed: "+what, api.ErrState, x, api.Turn{})
	}
	with("unformed and too early", api.ErrForm, asks(0, 0, 999))
	with("unformed and held", api.ErrForm, hires(9, 0, 101, 0))
	empty := func(what string, turns ...api.Turn) {
		l[what] = registerCase{register(2, []int{5, 6}, turns...), api.ErrState, len(turns) - 1}
	}
	empty("quit at first", quits(0, 0, 5))
	empty("bring at first", brings(0, 0, 5))
	empty("swap at first", swaps(0, 0, 1))
	empty("swap, the other one holds nothing", hires(0, 0, 5, 1), swaps(0, 0, 1))
	empty("swap, one holds nothing itself", hires(0, 1, 5, 1), swaps(0, 0, 1))
	empty("hire while another one is first", asks(0, 1, 5), hires(0, 0, 5, 1))
	empty("hire while another one is ahead", asks(0, 1, 5), asks(0, 0, 5), hires(0, 0, 5, 1))
	empty("hire two", hires(0, 0, 5, 1), hires(0, 0, 6, 1))
	empty("bring twice", hires(0, 0, 5, 1), brings(3, 0, 5), brings(3, 0, 5))
	empty("bring another one's", hires(0, 0, 5, 1), brings(3, 1, 5))
	empty("quit twice", asks(0, 0, 5), quits(0, 0, 5), quits(0, 0, 5))
	empty("quit what it got", asks(0, 0, 5), hires(0, 0, 5, 1), quits(0, 0, 5))
	empty("bring what was exchanged", hires(0, 0, 5, 1), hires(0, 1, 6, 1), swaps(0, 0, 1), brings(0, 0, 5))
	empty("ask for what was exchanged", hires(0, 0, 5, 1), hires(0, 1, 6, 1), swaps(0, 0, 1), asks(0, 0, 6))
	empty("a day less", asks(api.MaxDay, 0, 5), quits(api.MaxDay-1, 0, 5))
	return l
}

// wrongRegisters is registers that have an error.
func wrongRegisters() map[string]registerCase {
	l := wrongStocks()
	for what, x := range wrongTurns() {
		l[what] = x
	}
	return l
}

// rightRegisters is registers without an error, though just so.
func rightRegisters() map[string]api.Hires {
	everyKind := []api.Turn{asks(0, 0, 5), hires(0, 0, 5, 1), hires(0, 1, 6, 1), asks(0, 1, 7), swaps(0, 0, 1), quits(0, 1, 7), brings(0, 0, 6), brings(0, 1, 5)}
	return map[string]api.Hires{
		"example":               example(),
		"one piece, one scribe": register(1, []int{1}),
		"greatest ID":           register(1, []int{api.MaxID}, asks(0, 0, api.MaxID)),
		"most pieces":           register(1, upTo(1, api.MaxStock), asks(0, 0, api.MaxStock)),
		"most scribes":          register(api.MaxScribes, []int{5}, asks(0, api.MaxScribes-1, 5)),
		"most turns":            register(1, []int{5}, manyTurns(api.MaxTurns)...),
		"most weeks":            register(1, []int{5}, hires(0, 0, 5, api.MaxWeeks)),
		"last day":              register(1, []int{5}, hires(api.MaxDay, 0, 5, api.MaxWeeks), brings(api.MaxDay, 0, 5)),
		"all on one day":        register(2, []int{5, 6, 7}, everyKind...),
		"others fall":           register(3, []int{9, 1, 5}, hires(3, 2, 1, 1), hires(3, 1, 5, 1), swaps(3, 2, 1), hires(3, 0, 9, 1), swaps(3, 2, 0)),
	}
}

// TestCheck is of P4.1.
func TestCheck(t *testing.T) {
	for what, h := range rightRegisters() {
		e, at := hire.Check(h)
		wantErr(t, what, e, api.OK)
		want(t, what, at, -1)
	}
	for what, x := range wrongRegisters() {
		e, at := hire.Check(x.h)
		wantErr(t, what, e, x.e)
		want(t, what, at, x.at)
	}
}

// TestFirstError is of P4.1: with a wrong turn at any place the index is that of the first one.
func TestFirstError(t *testing.T) {
	for i := range len(example().Turns) {
		h := example()
		h.Turns[i].Day = -1
		e, at := hire.Check(h)
		wantErr(t, "a day -1", e, api.ErrForm)
		want(t, "a day -1", at, i)
		h = example()
		h.Turns[i] = brings(h.Turns[i].Day, 0, 103)
		e, at = hire.Check(h)
		wantErr(t, "brought in vain", e, api.ErrState)
		want(t, "brought in vain", at, i)
	}
}

// TestPossible is of P4.1, for many turns: just those are possible that the document says.
func TestPossible(t *testing.T) {
	r := rand.New(rand.NewSource(1))
	can, cannot := map[int]int{}, map[int]int{}
	someRegisters(400, func(h api.Hires) {
		e, at := hire.Check(h)
		wantErr(t, "Check", e, api.OK)
		want(t, "Check", at, -1)
		b := booksOf(h, api.MaxDay)
		for range 30 {
			more := cloneHires(h)
			x := someTurn(r, h, max(0, b.day-1+r.Intn(4)))
			more.Turns = append(more.Turns, x)
			should, place := api.OK, -1
			if !b.can(x) {
				should, place = api.ErrState, len(h.Turns)
				cannot[x.Kind]++
			} else {
				can[x.Kind]++
			}
			e, at := hire.Check(more)
			if e != should || at != place {
				t.Error("Check", more, e, at, should, place)
			}
		}
	})
	for kind := api.TuAsk; kind <= api.TuQuit; kind++ {
		if can[kind] < 60 || cannot[kind] < 200 {
			t.Error("too few turns of a kind:", kind, can[kind], cannot[kind])
		}
	}
}

// A call is a function with a register, a piece and a day: its error, and whether there is anything else.
type call func(h api.Hires, piece, day int) (api.Errno, bool)

// dayCalls is the functions with a register and a day.
func dayCalls() map[string]call {
	held := func(f func(api.Hires, int) ([]api.Held, api.Errno)) call {
		return func(h api.Hires, piece, day int) (api.Errno, bool) {
			l, e := f(h, day)
			return e, len(l) > 0
		}
	}
	numbers := func(f func(api.Hires, int) ([]int, api.Errno)) call {
		return func(h api.Hires, piece, day int) (api.Errno, bool) {
			l, e := f(h, day)
			return e, len(l) > 0
		}
	}
	checkStuck := func(scribes ...int) call {
		return func(h api.Hires, piece, day int) (api.Errno, bool) { return hire.CheckStuck(h, day, scribes), false }
	}
	return map[string]call{
		"Holds": held(hire.Holds),
		"Late":  held(hire.Late),
		"Free":  numbers(hire.Free),
		"Stuck": numbers(hire.Stuck),
		"Ready": func(h api.Hires, piece, day int) (api.Errno, bool) {
			l, e := hire.Ready(h, day)
			return e, len(l) > 0
		},
		"CheckStuck":                checkStuck(0, 1),
		"CheckStuck of wrong ones":  checkStuck(1, 0),
		"CheckStuck of nobody":      checkStuck(),
		"CheckStuck of no scribe's": checkStuck(-1),
	}
}

// pieceCalls is the functions with a register, a piece and a day.
func pieceCalls() map[string]call {
	return map[string]call{
		"Where": func(h api.Hires, piece, day int) (api.Errno, bool) {
			n, is, e := hire.Where(h, piece, day)
			return e, n != 0 || is
		},
		"Waits": func(h api.Hires, piece, day int) (api.Errno, bool) {
			l, e := hire.Waits(h, piece, day)
			return e, len(l) > 0
		},
	}
}

// TestRegisterErrors is of P4.1 to P4.4: all functions with a register return the error of Check first, then that of the piece, then that of the day, and nothing else.
func TestRegisterErrors(t *testing.T) {
	wrongDays := []int{-1, api.MaxDay + 1, math.MinInt, math.MaxInt}
	wrongPieces := []int{0, -1, 104, 1, math.MinInt, math.MaxInt}
	for what, x := range wrongRegisters() {
		for _, calls := range []map[string]call{dayCalls(), pieceCalls()} {
			for name, f := range calls {
				for _, day := range []int{5, -1} {
					for _, piece := range []int{101, 999} {
						e, more := f(x.h, piece, day)
						check(t, name+": "+what, e, x.e, more)
					}
				}
			}
		}
	}
	for name, f := range dayCalls() {
		for _, day := range wrongDays {
			e, more := f(example(), 101, day)
			check(t, name+": a wrong day", e, api.ErrArg, more)
		}
	}
	for name, f := range pieceCalls() {
		for _, day := range wrongDays {
			e, more := f(example(), 101, day)
			check(t, name+": a wrong day", e, api.ErrArg, more)
			for _, piece := range wrongPieces {
				e, more := f(example(), piece, day)
				check(t, name+": a wrong piece and a wrong day", e, api.ErrNone, more)
			}
		}
		for _, piece := range wrongPieces {
			e, more := f(example(), piece, 5)
			check(t, name+": a wrong piece", e, api.ErrNone, more)
		}
	}
}
