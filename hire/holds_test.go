package hire_test

import (
	"cmp"
	"slices"
	"testing"

	"pecia/api"
	"pecia/hire"
)

func held(piece, scribe, since, due int) api.Held {
	return api.Held{Piece: piece, Scribe: scribe, Since: since, Due: due}
}

func asked(scribe, piece int) api.Asked { return api.Asked{Scribe: scribe, Piece: piece} }

func wantHolds(t *testing.T, h api.Hires, day int, should ...api.Held) {
	t.Helper()
	l, e := hire.Holds(h, day)
	wantErr(t, "Holds", e, api.OK)
	want(t, "Holds", l, should)
}

func wantWhere(t *testing.T, h api.Hires, piece, day, scribe int, should bool) {
	t.Helper()
	n, is, e := hire.Where(h, piece, day)
	wantErr(t, "Where", e, api.OK)
	if n != scribe || is != should {
		t.Error("Where", h, piece, day, n, is)
	}
}

func wantFree(t *testing.T, h api.Hires, day int, should ...int) {
	t.Helper()
	l, e := hire.Free(h, day)
	wantErr(t, "Free", e, api.OK)
	want(t, "Free", l, should)
}

func wantWaits(t *testing.T, h api.Hires, piece, day int, should ...int) {
	t.Helper()
	l, e := hire.Waits(h, piece, day)
	wantErr(t, "Waits", e, api.OK)
	want(t, "Waits", l, should)
}

func wantLate(t *testing.T, h api.Hires, day int, should ...api.Held) {
	t.Helper()
	l, e := hire.Late(h, day)
	wantErr(t, "Late", e, api.OK)
	want(t, "Late", l, should)
}

func wantReady(t *testing.T, h api.Hires, day int, should ...api.Asked) {
	t.Helper()
	l, e := hire.Ready(h, day)
	wantErr(t, "Ready", e, api.OK)
	want(t, "Ready", l, should)
}

func wantStuck(t *testing.T, h api.Hires, day int, should ...int) {
	t.Helper()
	l, e := hire.Stuck(h, day)
	wantErr(t, "Stuck", e, api.OK)
	want(t, "Stuck", l, should)
}

// TestExamples is of P4.2 to P4.4, by the examples of the chapter.
func TestExamples(t *testing.T) {
	h := example()
	wantHolds(t, h, 5, held(101, 0, 0, 7), held(102, 1, 1, 15), held(103, 2, 5, 12))
	wantWaits(t, h, 101, 5, 1, 2)
	wantFree(t, h, 4, 103)
	wantLate(t, h, 13, held(101, 0, 0, 7), held(103, 2, 5, 12))
	wantStuck(t, h, 5, 0, 1, 2)
	wantStuck(t, h, 2)
}

// TestNothing is of P4.2 to P4.4: at first nobody holds or waits for anything.
func TestNothing(t *testing.T) {
	for _, h := range []api.Hires{register(1, []int{7}), register(1, []int{7}, hires(9, 0, 7, 1)), register(1, []int{7}, hires(0, 0, 7, 1), brings(0, 0, 7))} {
		wantHolds(t, h, 8)
		wantWhere(t, h, 7, 8, 0, false)
		wantFree(t, h, 8, 7)
		wantWaits(t, h, 7, 8)
		wantLate(t, h, 8)
		wantReady(t, h, 8)
		wantStuck(t, h, 8)
	}
	h := register(api.MaxScribes, []int{9, 3, 6})
	wantFree(t, h, 0, 9, 3, 6)
	wantFree(t, h, api.MaxDay, 9, 3, 6)
}

// TestHolds is of P4.2: who holds what, turn by turn.
func TestHolds(t *testing.T) {
	h := register(4, []int{30, 10, 20},
		hires(1, 3, 10, 2), hires(2, 0, 30, api.MaxWeeks), swaps(4, 0, 3), brings(6, 0, 10), hires(6, 2, 10, 1), swaps(7, 2, 3), hires(8, 1, 20, 1), brings(9, 3, 10), brings(9, 2, 30))
	wantHolds(t, h, 0)
	wantFree(t, h, 0, 30, 10, 20)
	wantHolds(t, h, 1, held(10, 3, 1, 15))
	wantFree(t, h, 1, 30, 20)
	wantHolds(t, h, 2, held(30, 0, 2, 282), held(10, 3, 1, 15))
	wantHolds(t, h, 3, held(30, 0, 2, 282), held(10, 3, 1, 15))
	// Since and Due stay with the scribe, when the pieces do not.
	wantHolds(t, h, 4, held(10, 0, 2, 282), held(30, 3, 1, 15))
	wantWhere(t, h, 10, 3, 3, true)
	wantWhere(t, h, 10, 4, 0, true)
	wantWhere(t, h, 30, 4, 3, true)
	wantWhere(t, h, 20, 4, 0, false)
	// On a day all of its turns count.
	wantHolds(t, h, 6, held(10, 2, 6, 13), held(30, 3, 1, 15))
	wantHolds(t, h, 7, held(30, 2, 6, 13), held(10, 3, 1, 15))
	wantHolds(t, h, 8, held(20, 1, 8, 15), held(30, 2, 6, 13), held(10, 3, 1, 15))
	wantFree(t, h, 8)
	wantHolds(t, h, 9, held(20, 1, 8, 15))
	wantFree(t, h, 9, 30, 10)
	wantHolds(t, h, api.MaxDay, held(20, 1, 8, 15))
	last := register(1, []int{api.MaxID}, hires(api.MaxDay, 0, api.MaxID, api.MaxWeeks))
	wantHolds(t, last, api.MaxDay-1)
	wantHolds(t, last, api.MaxDay, held(api.MaxID, 0, api.MaxDay, api.MaxDay+280))
}

// TestWaits is of P4.2: who waits stands behind all who do already, and no more where it gets the piece, or quits.
func TestWaits(t *testing.T) {
	h := register(5, []int{1, 2, 3},
		asks(0, 3, 1), asks(1, 0, 1), asks(2, 4, 1), asks(2, 0, 2), quits(3, 0, 1), asks(4, 1, 1), asks(5, 0, 1), hires(6, 3, 1, 1), asks(7, 2, 1), quits(8, 4, 1), brings(9, 3, 1), asks(9, 3, 1), hires(10, 1, 1, 1), quits(11, 0, 1), quits(11, 2, 1), quits(11, 3, 1))
	for day, should := range [][]int{{3}, {3, 0}, {3, 0, 4}, {3, 4}, {3, 4, 1}, {3, 4, 1, 0}, {4, 1, 0}, {4, 1, 0, 2}, {1, 0, 2}, {1, 0, 2, 3}, {0, 2, 3}, nil, nil} {
		wantWaits(t, h, 1, day, should...)
	}
	wantWaits(t, h, 2, 1)
	wantWaits(t, h, 2, 2, 0) // one may wait for several pieces
	wantWaits(t, h, 2, 11, 0)
	wantWaits(t, h, 3, 11)
}

// TestLate is of P4.3: late is what was due before the day, what is due the earliest first.
func TestLate(t *testing.T) {
	h := register(4, []int{1, 2, 3, 4, 5}, hires(0, 3, 5, 2), hires(0, 1, 4, 2), hires(7, 2, 3, 1), hires(7, 0, 2, 2), swaps(8, 0, 3), brings(30, 1, 4))
	a, b, c, d := held(4, 1, 0, 14), held(3, 2, 7, 14), held(2, 3, 0, 14), held(5, 0, 7, 21)
	wantLate(t, h, 13)
	wantLate(t, h, 14)
	wantLate(t, h, 15, a, b, c)
	wantLate(t, h, 21, a, b, c)
	wantLate(t, h, 22, a, b, c, d)
	wantLate(t, h, 29, a, b, c, d)
	wantLate(t, h, 30, b, c, d)
	wantLate(t, h, api.MaxDay, b, c, d)
	falling := register(3, []int{1, 2, 3}, hires(0, 0, 1, 3), hires(0, 1, 2, 2), hires(0, 2, 3, 1))
	wantLate(t, falling, 15, held(3, 2, 0, 7), held(2, 1, 0, 14))
	wantLate(t, falling, 22, held(3, 2, 0, 7), held(2, 1, 0, 14), held(1, 0, 0, 21))
}

// TestReady is of P4.3: a free piece is ready for the first one who waits for it alone, and not if that one holds another piece.
func TestReady(t *testing.T) {
	h := register(4, []int{30, 10, 20},
		asks(1, 2, 10), asks(1, 3, 10), asks(2, 2, 20), asks(2, 1, 30), hires(3, 2, 10, 1), asks(4, 0, 20), brings(5, 2, 10), quits(6, 2, 20), hires(7, 0, 20, 1), asks(8, 0, 30), quits(8, 1, 30))
	for day, should := range [][]api.Asked{nil, {asked(2, 10)}, {asked(1, 30), asked(2, 10), asked(2, 20)}, {asked(1, 30)}, {asked(1, 30)}, {asked(1, 30), asked(3, 10), asked(2, 20)}, {asked(1, 30), asked(3, 10), asked(0, 20)}, {asked(1, 30), asked(3, 10)}, {asked(3, 10)}} {
		wantReady(t, h, day, should...)
	}
}

// TestStuck is of P4.4.
func TestStuck(t *testing.T) {
	all := register(6, []int{1, 2, 3, 4, 5, 6, 7},
		hires(0, 0, 1, 1), hires(0, 1, 2, 1), hires(0, 2, 3, 1), hires(0, 3, 4, 1), hires(0, 4, 5, 1),
		asks(1, 0, 2), asks(2, 1, 1), // these two alone
		asks(3, 0, 3),                // one of them waits for one who does not wait
		asks(4, 2, 4), asks(5, 3, 3), // now all four
		asks(6, 4, 1), // who waits for them is one of them
		asks(7, 5, 1), // but not one who holds nothing
		asks(8, 3, 7), // one of them could get a piece that nobody holds, and with it all of them who depend on it
		quits(9, 0, 3),
		quits(10, 3, 7), quits(10, 3, 3))
	for day, should := range [][]int{nil, nil, {0, 1}, nil, nil, {0, 1, 2, 3}, {0, 1, 2, 3, 4}, {0, 1, 2, 3, 4}, nil, {0, 1, 4}, {0, 1, 4}} {
		wantStuck(t, all, day, should...)
	}
	// One alone does not wait for itself, and waits in vain for what nobody holds.
	wantStuck(t, register(1, []int{1, 2}, hires(0, 0, 1, 1), asks(0, 0, 2)), 0)
	// Two rings are told of together.
	rings := register(4, []int{1, 2, 3, 4}, hires(0, 0, 1, 1), hires(0, 1, 2, 1), hires(0, 2, 3, 1), hires(0, 3, 4, 1), asks(1, 0, 4), asks(1, 3, 1), asks(2, 2, 2), asks(2, 1, 3))
	wantStuck(t, rings, 1, 0, 3)
	wantStuck(t, rings, 2, 0, 1, 2, 3)
}

// TestMostStuck is of P4.4: as many scribes as there can be wait in a ring, until one brings its piece back.
func TestMostStuck(t *testing.T) {
	h := register(api.MaxScribes, upTo(1, api.MaxStock))
	for scribe := range api.MaxScribes {
		h.Turns = append(h.Turns, hires(0, scribe, 1+scribe, 1))
	}
	for scribe := range api.MaxScribes {
		h.Turns = append(h.Turns, asks(1+scribe, scribe, 1+(scribe+1)%api.MaxScribes))
	}
	h.Turns = append(h.Turns, brings(50, 7, 8))
	wantStuck(t, h, api.MaxScribes-1)
	wantStuck(t, h, api.MaxScribes, upTo(0, api.MaxScribes-1)...)
	wantErr(t, "CheckStuck", hire.CheckStuck(h, 49, upTo(0, api.MaxScribes-1)), api.OK)
	wantErr(t, "CheckStuck", hire.CheckStuck(h, 49, upTo(0, api.MaxScribes)), api.ErrProof)
	wantStuck(t, h, 50)
}

// TestCheckStuck is of P4.4.
func TestCheckStuck(t *testing.T) {
	h := example()
	for _, x := range []struct {
		day     int
		scribes []int
		e       api.Errno
	}{
		{5, []int{0, 1, 2}, api.OK}, {5, []int{0, 1}, api.OK}, {3, []int{0, 1}, api.OK}, {api.MaxDay, []int{0, 1}, api.OK},
		{2, []int{0, 1}, api.ErrProof}, {4, []int{0, 1, 2}, api.ErrProof}, {5, []int{1, 2}, api.ErrProof}, {5, []int{0, 2}, api.ErrProof},
		{5, []int{0}, api.ErrProof}, {5, []int{2}, api.ErrProof}, {5, nil, api.ErrProof}, {5, []int{}, api.ErrProof},
		{5, []int{1, 0}, api.ErrProof}, {5, []int{0, 0, 1}, api.ErrProof}, {5, []int{0, 1, 1}, api.ErrProof}, {5, []int{0, 2, 1}, api.ErrProof},
		{5, []int{-1, 0, 1}, api.ErrProof}, {5, []int{0, 1, 3}, api.ErrProof}, {5, []int{0, 1, 1 << 62}, api.ErrProof}, {5, []int{-1 << 63}, api.ErrProof},
	} {
		if e := hire.CheckStuck(h, x.day, x.scribes); e != x.e {
			t.Error("CheckStuck", x.day, x.scribes, e, x.e)
		}
	}
}

// TestRegistersAgree is of P4.2 and P4.3, for many registers: all that is told is what the document says.
func TestRegistersAgree(t *testing.T) {
	late, ready := 0, 0
	someRegisters(300, func(h api.Hires) {
		for day := range 25 {
			b := booksOf(h, day)
			var holds, due []api.Held
			for scribe := range h.Scribes {
				if x, is := b.holds[scribe]; is {
					holds = append(holds, x)
				}
			}
			for _, x := range holds {
				if x.Due < day {
					due = append(due, x)
				}
			}
			slices.SortStableFunc(due, func(a, b api.Held) int { return cmp.Compare(a.Due, b.Due) })
			var free []int
			var first []api.Asked
			for _, piece := range h.Pieces {
				scribe, is := b.holder(piece)
				wantWhere(t, h, piece, day, scribe, is)
				wantWaits(t, h, piece, day, b.waits[piece]...)
				if is {
					continue
				}
				free = append(free, piece)
				if l := b.waits[piece]; len(l) > 0 {
					if _, holdsOne := b.holds[l[0]]; !holdsOne {
						first = append(first, asked(l[0], piece))
					}
				}
			}
			wantHolds(t, h, day, holds...)
			wantFree(t, h, day, free...)
			wantLate(t, h, day, due...)
			wantReady(t, h, day, first...)
			late, ready = late+len(due), ready+len(first)
		}
	})
	if late < 100 || ready < 100 {
		t.Error("too few of a sort:", late, ready)
	}
}

// TestStuckAgree is of P4.4 and P4.13, by trying all groups of few scribes.
func TestStuckAgree(t *testing.T) {
	groups, all := 0, 0
	someRegisters(700, func(h api.Hires) {
		for day := range 16 {
			b := booksOf(h, day)
			among := map[int]bool{}
			for _, group := range subsets(h.Scribes) {
				should := api.ErrProof
				if len(group) > 0 && b.waitForEachOther(group) {
					should = api.OK
					groups++
					for _, scribe := range group {
						among[scribe] = true
					}
				}
				if e := hire.CheckStuck(h, day, group); e != should {
					t.Error("CheckStuck", h, day, group, e, should)
				}
			}
			var stuck []int
			for scribe := range h.Scribes {
				if among[scribe] {
					stuck = append(stuck, scribe)
				}
			}
			wantStuck(t, h, day, stuck...)
			if len(stuck) > 2 {
				all++
			}
		}
	})
	if groups < 300 || all < 50 {
		t.Error("too few groups:", groups, all)
	}
}
