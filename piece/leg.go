package piece

import (
	"iter"
	"maps"
	"slices"

	"pecia/api"
)

// noWord is no word of any piece: no piece can follow one that has it as its catchword, or stand ahead of one that begins with it.
const noWord = 0

// A leg is what tells where a piece can stand: the word with which it begins, and its catchword.
type leg struct{ id, from, to int }

// legsOf returns the legs of pieces in the order of their IDs, so that whatever is gathered from them in turn is in this order, too.
func legsOf(l []api.Piece) []leg {
	var legs []leg
	for _, p := range l {
		legs = append(legs, leg{p.ID, p.Words[0], p.Catch})
	}
	slices.SortFunc(legs, func(a, b leg) int { return a.id - b.id })
	return legs
}

func idsOf(legs []leg) []int {
	var ids []int
	for _, g := range legs {
		ids = append(ids, g.id)
	}
	return ids
}

func legWith(legs []leg, id int) (leg, bool) {
	for _, g := range legs {
		if g.id == id {
			return g, true
		}
	}
	return leg{}, false
}

func legsByID(legs []leg) map[int]leg {
	byID := map[int]leg{}
	for _, g := range legs {
		byID[g.id] = g
	}
	return byID
}

func follows(before, after leg) bool {
	return before.id != after.id && before.to == after.from
}

// followers yields the legs that can follow one, with their indices.
func followers(legs []leg, before leg) iter.Seq2[int, leg] {
	return func(yield func(int, leg) bool) {
		for i, g := range legs {
			if follows(before, g) && !yield(i, g) {
				return
			}
		}
	}
}

// surpluses returns the surpluses of all words that have one other than 0.
func surpluses(legs []leg) map[int]int {
	over := map[int]int{}
	for _, g := range legs {
		addSurplus(over, g.from, 1)
		addSurplus(over, g.to, -1)
	}
	return over
}

func addSurplus(over map[int]int, word, by int) {
	over[word] += by
	if over[word] == 0 {
		delete(over, word)
	}
}

func sortedWords(over map[int]int) []int { return slices.Sorted(maps.Keys(over)) }

// ties are words that hang together: each one but a last one has one that stands nearer to the last one.
type ties map[int]int

func (t ties) last(word int) int {
	for {
		nearer, is := t[word]
		if !is {
			return word
		}
		word = nearer
	}
}

func (t ties) tie(a, b int) {
	x, y := t.last(a), t.last(b)
	if x != y {
		t[x] = y
	}
}

// parts returns the parts of legs, in the order of their first legs.
func parts(legs []leg) [][]leg {
	tied := ties{}
	for _, g := range legs {
		tied.tie(g.from, g.to)
	}
	place := map[int]int{}
	var all [][]leg
	for _, g := range legs {
		word := tied.last(g.from)
		at, is := place[word]
		if !is {
			at = len(all)
			place[word] = at
			all = append(all, nil)
		}
		all[at] = append(all[at], g)
	}
	return all
}

// fewestRows returns in how few rows all legs can stand.
func fewestRows(legs []leg) int {
	n := 0
	for _, part := range parts(legs) {
		beginnings := 0
		for _, surplus := range surpluses(part) {
			beginnings += max(0, surplus)
		}
		n += max(1, beginnings)
	}
	return n
}

func haveOrder(legs []leg) bool { return fewestRows(legs) == 1 }

// least returns the least of the numbers that things have; there is at least one thing.
func least[T any](things []T, number func(T) int) int {
	n := number(things[0])
	for _, t := range things {
		n = min(n, number(t))
	}
	return n
}
