package piece

import (
	"slices"

	"pecia/api"
)

// Rows returns as few rows as possible in which all pieces stand.
func Rows(l []api.Piece) ([][]int, api.Errno) {
	if e := Check(l); e != api.OK {
		return nil, e
	}
	return rowsOf(legsOf(l)), api.OK
}

// CheckRows returns OK if rows are as few as possible.
func CheckRows(l []api.Piece, rows [][]int) api.Errno {
	if e := Check(l); e != api.OK {
		return e
	}
	legs := legsOf(l)
	left := legsByID(legs)
	for _, row := range rows {
		if !takeRow(left, row) {
			return api.ErrProof
		}
	}
	if len(left) > 0 || len(rows) != fewestRows(legs) {
		return api.ErrProof
	}
	return api.OK
}

// takeRow deletes the legs of a row from those that are left; it reports whether the IDs are a row of these.
func takeRow(left map[int]leg, row []int) bool {
	var before leg
	for i, id := range row {
		g, is := left[id]
		if !is || i > 0 && !follows(before, g) {
			return false
		}
		delete(left, id)
		before = g
	}
	return len(row) > 0
}

// Missing returns the pieces each of which alone would make an order possible.
func Missing(l []api.Piece) ([]api.Gap, api.Errno) {
	if e := Check(l); e != api.OK {
		return nil, e
	}
	if len(l) == api.MaxPieces {
		return nil, api.ErrLimit
	}
	legs := legsOf(l)
	if haveOrder(legs) {
		return nil, api.ErrTwice
	}
	words := allWords(legs)
	var gaps []api.Gap
	for _, first := range words {
		for _, catch := range words {
			if haveOrder(append(slices.Clone(legs), leg{from: first, to: catch})) {
				gaps = append(gaps, api.Gap{First: first, Catch: catch})
			}
		}
	}
	return gaps, api.OK
}

// allWords returns, in increasing order, the words that pieces begin with or have as their catchword.
func allWords(legs []leg) []int {
	var words []int
	for _, g := range legs {
		words = append(words, g.from, g.to)
	}
	slices.Sort(words)
	return slices.Compact(words)
}

// rowsOf returns as few rows as possible in which all legs stand: the circuit of each part, cut where it passes noWord.
func rowsOf(legs []leg) [][]int {
	var rows [][]int
	for _, part := range parts(legs) {
		var row []int
		for _, g := range circuit(closed(part)) {
			if g.from == noWord {
				continue
			}
			if g.to == noWord {
				rows = append(rows, row)
				row = nil
				continue
			}
			row = append(row, g.id)
		}
		if len(row) > 0 {
			rows = append(rows, row)
		}
	}
	return rows
}

// closed returns legs together with as many from and to noWord as it takes that no word has a surplus.
func closed(legs []leg) []leg {
	all := slices.Clone(legs)
	over := surpluses(legs)
	for _, word := range sortedWords(over) {
		for n := 0; n < over[word]; n++ {
			all = append(all, leg{from: noWord, to: word})
		}
		for n := 0; n > over[word]; n-- {
			all = append(all, leg{from: word, to: noWord})
		}
	}
	return all
}

// circuit returns the legs of a part in which no word has a surplus, each one behind one that ends where it begins. It begins at the least word, which is noWord if there is one, so that no row is cut in two by where the circuit begins.
func circuit(legs []leg) []leg {
	used := make([]bool, len(legs))
	var path, done []leg
	at := least(legs, func(g leg) int { return g.from })
search:
	for {
		for i, g := range legs {
			if !used[i] && g.from == at {
				used[i] = true
				path = append(path, g)
				at = g.to
				continue search
			}
		}
		if len(path) == 0 {
			break search
		}
		// No way leads on from here, so this leg ends a circuit that those ahead of it lead up to.
		last := path[len(path)-1]
		path = path[:len(path)-1]
		done = append(done, last)
		at = last.from
	}
	slices.Reverse(done)
	return done
}
