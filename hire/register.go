package hire

import (
	"iter"
	"slices"

	"pecia/api"
)

// The kinds of turns, with the numbers that they have in package api.
const (
	_ = iota
	ask
	hire
	back
	swap
	quit
)

// impossible is what a turn panics with if it is not possible.
const impossible = "the turn is not possible"

// A register is who holds what, and who waits for what, behind some turns.
type register struct {
	pieces []int
	day    int                    // that of the last turn
	holds  []api.Held             // for each scribe; zero, if it holds nothing
	queues map[int][]int          // for each piece, the scribes who wait for it
	doings map[int]func(api.Turn) // for each kind, what its turns do
}

// newRegister returns the register ahead of all turns.
func newRegister(h api.Hires) *register {
	r := &register{pieces: h.Pieces, holds: make([]api.Held, h.Scribes), queues: map[int][]int{}}
	r.doings = map[int]func(api.Turn){ask: r.ask, hire: r.hire, back: r.back, swap: r.swap, quit: r.quit}
	return r
}

// do does a turn that is formed, and reports whether it is possible; if it is not, nothing changes.
func (r *register) do(t api.Turn) (possible bool) {
	defer func() {
		if recover() != nil {
			possible = false
		}
	}()
	must(r.day <= t.Day)
	r.doings[t.Kind](t)
	r.day = t.Day
	return true
}

func must(is bool) {
	if !is {
		panic(impossible)
	}
}

func (r *register) ask(t api.Turn) {
	must(!r.holdsPiece(t.Scribe, t.Piece) && !r.waitsFor(t.Scribe, t.Piece))
	r.queues[t.Piece] = append(r.queues[t.Piece], t.Scribe)
}

func (r *register) quit(t api.Turn) {
	must(r.waitsFor(t.Scribe, t.Piece))
	r.leaveQueue(t.Scribe, t.Piece)
}

func (r *register) hire(t api.Turn) {
	_, isHeld := r.holder(t.Piece)
	queue := r.queues[t.Piece]
	must(!isHeld && !r.holdsAny(t.Scribe) && (len(queue) == 0 || queue[0] == t.Scribe))
	r.leaveQueue(t.Scribe, t.Piece)
	r.holds[t.Scribe] = api.Held{Piece: t.Piece, Scribe: t.Scribe, Since: t.Day, Due: t.Day + t.Weeks*api.Week}
}

func (r *register) back(t api.Turn) {
	must(r.holdsPiece(t.Scribe, t.Piece))
	r.holds[t.Scribe] = api.Held{}
}

func (r *register) swap(t api.Turn) {
	one, other := &r.holds[t.Scribe], &r.holds[t.Other]
	must(r.holdsAny(t.Scribe) && r.holdsAny(t.Other))
	must(!r.waitsFor(t.Scribe, other.Piece) && !r.waitsFor(t.Other, one.Piece))
	one.Piece, other.Piece = other.Piece, one.Piece
}

// held yields what scribes hold, in the order of the scribes.
func (r *register) held() iter.Seq[api.Held] {
	return func(yield func(api.Held) bool) {
		for scribe, x := range r.holds {
			if r.holdsAny(scribe) && !yield(x) {
				return
			}
		}
	}
}

// holder returns who holds a piece, if somebody does.
func (r *register) holder(piece int) (int, bool) {
	x, is := first(r.held(), func(x api.Held) bool { return x.Piece == piece })
	return x.Scribe, is
}

// first returns the first one of what is yielded that a closure accepts, if there is one.
func first[T any](all iter.Seq[T], accepts func(T) bool) (T, bool) {
	for x := range all {
		if accepts(x) {
			return x, true
		}
	}
	var none T
	return none, false
}

func (r *register) holdsAny(scribe int) bool { return r.holds[scribe] != api.Held{} }

func (r *register) holdsPiece(scribe, piece int) bool { return r.holds[scribe].Piece == piece }

func (r *register) waitsFor(scribe, piece int) bool { return slices.Contains(r.queues[piece], scribe) }

func (r *register) leaveQueue(scribe, piece int) {
	r.queues[piece] = slices.DeleteFunc(r.queues[piece], func(other int) bool { return other == scribe })
}

// free returns the pieces that nobody holds, in the order of the stock.
func (r *register) free() []int {
	var l []int
	for _, piece := range r.pieces {
		if _, isHeld := r.holder(piece); !isHeld {
			l = append(l, piece)
		}
	}
	return l
}
