package hire

import (
	"iter"
	"slices"

	"pecia/api"
)

// unknown is what lies in a case in which nothing was found.
const unknown = -1

func isRow(row []int) bool {
	return within(len(row), 1, api.MaxStock) && isShuffled(row, len(row))
}

// Loops returns the loops of pieces that lie in each other's cases.
func Loops(row []int) ([][]int, api.Errno) {
	if !isRow(row) {
		return nil, api.ErrArg
	}
	return loopsOf(row), api.OK
}

func loopsOf(row []int) [][]int {
	var loops [][]int
	done := make([]bool, len(row))
	for begin := range row {
		var loop []int
		for c := begin; !done[c]; c = row[c] {
			done[c] = true
			loop = append(loop, c)
		}
		if len(loop) > 0 {
			loops = append(loops, loop)
		}
	}
	return loops
}

// fewest returns how many exchanges a row needs: each one makes at most one loop more.
func fewest(row []int) int { return len(row) - len(loopsOf(row)) }

// Restore returns as few exchanges as possible that bring all pieces into their cases.
func Restore(row []int) ([]api.Swop, api.Errno) {
	if !isRow(row) {
		return nil, api.ErrArg
	}
	left := slices.Clone(row)
	var l []api.Swop
	for {
		x, is := first(homeward(left), func(x api.Swop) bool { return x != api.Swop{A: x.A, B: x.A} })
		if !is {
			return l, api.OK
		}
		exchange(left, x)
		l = append(l, x)
	}
}

// homeward yields, for each case, the exchange by which the piece that lies there comes into its own one.
func homeward(row []int) iter.Seq[api.Swop] {
	return func(yield func(api.Swop) bool) {
		for c, piece := range row {
			if !yield(api.Swop{A: c, B: piece}) {
				return
			}
		}
	}
}

func exchange(row []int, x api.Swop) { row[x.A], row[x.B] = row[x.B], row[x.A] }

// CheckRestore returns OK if exchanges bring all pieces into their cases, and are as few as possible.
func CheckRestore(row []int, l []api.Swop) api.Errno {
	end, e := Exchange(row, l)
	if e != api.OK {
		return e
	}
	if !slices.IsSorted(end) || len(l) != fewest(row) {
		return api.ErrProof
	}
	return api.OK
}

// Exchange returns what lies where behind exchanges.
func Exchange(row []int, l []api.Swop) ([]int, api.Errno) {
	if !isRow(row) {
		return nil, api.ErrArg
	}
	if len(l) > api.MaxTurns {
		return nil, api.ErrLimit
	}
	last := len(row) - 1
	end := slices.Clone(row)
	for _, x := range l {
		if !within(x.A, 0, last) || !within(x.B, 0, last) || x.A == x.B {
			return nil, api.ErrArg
		}
		exchange(end, x)
	}
	return end, api.OK
}

// Explain returns what lies where, by what was found, with as few exchanges as possible, and how many.
func Explain(cases int, l []api.Found) ([]int, int, api.Errno) {
	if !within(cases, 1, api.MaxStock) {
		return nil, 0, api.ErrArg
	}
	if len(l) > api.MaxStock {
		return nil, 0, api.ErrLimit
	}
	row, caseOf := slices.Repeat([]int{unknown}, cases), slices.Repeat([]int{unknown}, cases)
	for _, x := range l {
		if !within(x.Case, 0, cases-1) || !within(x.Piece, 0, cases-1) {
			return nil, 0, api.ErrArg
		}
		if row[x.Case] != unknown || caseOf[x.Piece] != unknown {
			return nil, 0, api.ErrClash
		}
		row[x.Case], caseOf[x.Piece] = x.Piece, x.Case
	}
	closeLoops(row, caseOf)
	return row, fewest(row), api.OK
}

// closeLoops puts into each case in which nothing was found the piece that makes a loop of what was found, so that there are as many loops as possible.
func closeLoops(row, caseOf []int) {
	for c, piece := range row {
		if piece != unknown {
			continue
		}
		begin := c
		for caseOf[begin] != unknown {
			begin = caseOf[begin]
		}
		row[c] = begin
	}
}
