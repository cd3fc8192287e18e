// Package piece is layer 1: pieces of exemplars, their orders by catchwords, and collations (shared/doc/01-piece.md).
package piece

import (
	"slices"

	"pecia/api"
)

// Check returns the first error of pieces.
func Check(l []api.Piece) api.Errno {
	if len(l) > api.MaxPieces {
		return api.ErrLimit
	}
	seen := map[int]bool{}
	for _, p := range l {
		if !isPiece(p) {
			return api.ErrArg
		}
		if seen[p.ID] {
			return api.ErrTwice
		}
		seen[p.ID] = true
	}
	return api.OK
}

func isPiece(p api.Piece) bool {
	return within(p.ID, 1, api.MaxID) && within(len(p.Words), 1, api.MaxWords) && areWords(p.Words) && isWord(p.Catch)
}

func areWords(words []int) bool {
	for _, w := range words {
		if !isWord(w) {
			return false
		}
	}
	return true
}

func isWord(n int) bool { return within(n, 1, api.MaxWord) }

func within(n, lo, hi int) bool { return lo <= n && n <= hi }

// Fits reports whether a piece can follow another one.
func Fits(l []api.Piece, j api.Joint) (bool, api.Errno) {
	if e := Check(l); e != api.OK {
		return false, e
	}
	legs := legsOf(l)
	before, is := legWith(legs, j.Before)
	after, are := legWith(legs, j.After)
	if !is || !are {
		return false, api.ErrNone
	}
	return follows(before, after), api.OK
}

// Followers returns the pieces that can follow one.
func Followers(l []api.Piece, id int) ([]int, api.Errno) {
	if e := Check(l); e != api.OK {
		return nil, e
	}
	legs := legsOf(l)
	before, is := legWith(legs, id)
	if !is {
		return nil, api.ErrNone
	}
	var ids []int
	for _, g := range followers(legs, before) {
		ids = append(ids, g.id)
	}
	return ids, api.OK
}

// IsOrder reports whether IDs are an order of all pieces.
func IsOrder(l []api.Piece, order []int) (bool, api.Errno) {
	if e := Check(l); e != api.OK {
		return false, e
	}
	left := legsByID(legsOf(l))
	return takeRow(left, order) && len(left) == 0, api.OK
}

// Find returns an order of all pieces.
func Find(l []api.Piece) ([]int, api.Errno) {
	legs, e := orderedLegs(l)
	if e != api.OK {
		return nil, e
	}
	return rowsOf(legs)[0], api.OK
}

// orderedLegs returns the legs of pieces; ErrNone if these have no order.
func orderedLegs(l []api.Piece) ([]leg, api.Errno) {
	if e := Check(l); e != api.OK {
		return nil, e
	}
	legs := legsOf(l)
	if !haveOrder(legs) {
		return nil, api.ErrNone
	}
	return legs, api.OK
}

// Why returns why there is no order of all pieces, if there is none.
func Why(l []api.Piece) (api.Bar, bool, api.Errno) {
	if e := Check(l); e != api.OK {
		return api.Bar{}, false, e
	}
	legs := legsOf(l)
	if haveOrder(legs) {
		return api.Bar{}, false, api.OK
	}
	bar := api.Bar{Words: sortedWords(surpluses(legs))}
	for _, part := range parts(legs) {
		bar.Parts = append(bar.Parts, idsOf(part))
	}
	return bar, true, api.OK
}

// Text returns the text of pieces in an order.
func Text(l []api.Piece, order []int) ([]int, api.Errno) {
	is, e := IsOrder(l, order)
	if e != api.OK {
		return nil, e
	}
	if !is {
		return nil, api.ErrArg
	}
	words := map[int][]int{}
	for _, p := range l {
		words[p.ID] = p.Words
	}
	var text []int
	for _, id := range order {
		text = append(text, words[id]...)
	}
	return text, api.OK
}

// Cut returns the pieces of a text.
func Cut(text []int, ends []int) ([]api.Piece, api.Errno) {
	if len(text) > api.MaxPieces*api.MaxWords || len(ends) > api.MaxPieces {
		return nil, api.ErrLimit
	}
	if !areWords(text) || !areEnds(ends, len(text)) {
		return nil, api.ErrArg
	}
	var l []api.Piece
	start := 0
	for i, end := range ends {
		l = append(l, api.Piece{ID: i + 1, Words: slices.Clone(text[start:end]), Catch: text[end%len(text)]})
		start = end
	}
	return l, api.OK
}

// areEnds reports whether ends cut so many words into pieces, none of them empty or too long, and leave no word over.
func areEnds(ends []int, words int) bool {
	start := 0
	for _, end := range ends {
		if end > words || !within(end-start, 1, api.MaxWords) {
			return false
		}
		start = end
	}
	return len(ends) > 0 && start == words
}
