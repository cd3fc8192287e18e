package piece_test

import (
	"math/rand"
	"reflect"
	"slices"
	"testing"

	"pecia/api"
	"pecia/piece"
)

// short is a piece of one word.
func short(id, first, catch int) api.Piece {
	return api.Piece{ID: id, Words: []int{first}, Catch: catch}
}

// chain is pieces with the IDs from 1 on, from pairs of a first word and a catchword.
func chain(words ...int) []api.Piece {
	var l []api.Piece
	for i := 0; i+1 < len(words); i += 2 {
		l = append(l, short(i/2+1, words[i], words[i+1]))
	}
	return l
}

// example is the pieces of the chapter's examples.
func example() []api.Piece { return chain(5, 7, 7, 5, 5, 9, 9, 5, 5, 8) }

// without is pieces without the one with an ID.
func without(l []api.Piece, id int) []api.Piece {
	return slices.DeleteFunc(clonePieces(l), func(p api.Piece) bool { return p.ID == id })
}

func clonePieces(l []api.Piece) []api.Piece {
	m := slices.Clone(l)
	for i := range m {
		m[i].Words = slices.Clone(m[i].Words)
	}
	return m
}

func words(n, word int) []int {
	l := make([]int, n)
	for i := range l {
		l[i] = word
	}
	return l
}

// joints is joints from pairs of IDs.
func joints(ids ...int) []api.Joint {
	var l []api.Joint
	for i := 0; i+1 < len(ids); i += 2 {
		l = append(l, api.Joint{Before: ids[i], After: ids[i+1]})
	}
	return l
}

// jointsOf is the joints of a row.
func jointsOf(row []int) []api.Joint {
	var l []api.Joint
	for i := 1; i < len(row); i++ {
		l = append(l, api.Joint{Before: row[i-1], After: row[i]})
	}
	return l
}

func compareJoints(a, b api.Joint) int {
	if a.Before != b.Before {
		return a.Before - b.Before
	}
	return a.After - b.After
}

func wantErr(t *testing.T, what string, got, want api.Errno) {
	t.Helper()
	if got != want {
		t.Errorf("%s: error %d, want %d", what, got, want)
	}
}

// want compares results with what they should be; an empty slice is the same whether it is nil or not.
func want(t *testing.T, what string, got, should any) {
	t.Helper()
	a, b := reflect.ValueOf(got), reflect.ValueOf(should)
	if a.Kind() == reflect.Slice && a.Len() == 0 && b.Len() == 0 {
		return
	}
	if !reflect.DeepEqual(got, should) {
		t.Errorf("%s: %v, want %v", what, got, should)
	}
}

// fits is whether b can follow a, by the words of the document.
func fits(a, b api.Piece) bool { return a.ID != b.ID && a.Catch == b.Words[0] }

// permutations calls do with each order of the numbers below n; the slice is used again.
func permutations(n int, do func([]int)) {
	l := make([]int, n)
	for i := range l {
		l[i] = i
	}
	var from func(k int)
	from = func(k int) {
		if k == n {
			do(l)
			return
		}
		for i := k; i < n; i++ {
			l[k], l[i] = l[i], l[k]
			from(k + 1)
			l[k], l[i] = l[i], l[k]
		}
	}
	from(0)
}

// known is all that trying each permutation of pieces tells about them.
type known struct {
	orders         [][]int
	fewest         int // rows
	sure, possible []api.Joint
	firsts, lasts  []int // of some order
}

func tryAll(l []api.Piece) known {
	k := known{fewest: len(l)}
	permutations(len(l), func(at []int) {
		rows := min(1, len(l))
		for i := 1; i < len(at); i++ {
			if !fits(l[at[i-1]], l[at[i]]) {
				rows++
			}
		}
		k.fewest = min(k.fewest, rows)
		if rows == 1 {
			var order []int
			for _, i := range at {
				order = append(order, l[i].ID)
			}
			k.orders = append(k.orders, order)
		}
	})
	seen := map[api.Joint]int{}
	for _, order := range k.orders {
		for _, j := range jointsOf(order) {
			seen[j]++
		}
		k.firsts = append(k.firsts, order[0])
		k.lasts = append(k.lasts, order[len(order)-1])
	}
	for j, n := range seen {
		k.possible = append(k.possible, j)
		if n == len(k.orders) {
			k.sure = append(k.sure, j)
		}
	}
	slices.SortFunc(k.possible, compareJoints)
	slices.SortFunc(k.sure, compareJoints)
	slices.Sort(k.firsts)
	slices.Sort(k.lasts)
	k.firsts, k.lasts = slices.Compact(k.firsts), slices.Compact(k.lasts)
	return k
}

// ifOne is a list if it has one element, and an empty one otherwise.
func ifOne(l []int) []int {
	if len(l) == 1 {
		return l
	}
	return nil
}

// somePieces calls do with lists of at most most pieces that begin and end with few words, always the same ones. About half of them have an order.
func somePieces(lists, most int, do func(l []api.Piece)) {
	r := rand.New(rand.NewSource(int64(lists*100 + most)))
	for range lists {
		n := r.Intn(most + 1)
		vary := 1 + r.Intn(4)
		ids := r.Perm(50)[:n]
		walk := r.Intn(3) > 0
		var l []api.Piece
		first := 1 + r.Intn(vary)
		for i := range n {
			catch := 1 + r.Intn(vary)
			l = append(l, api.Piece{ID: ids[i] + 1, Words: append([]int{first}, words(r.Intn(3), 77)...), Catch: catch})
			first = 1 + r.Intn(vary)
			if walk {
				first = catch
			}
		}
		r.Shuffle(n, func(i, k int) { l[i], l[k] = l[k], l[i] })
		do(l)
	}
}

// isOrder is IsOrder of right pieces.
func isOrder(t *testing.T, l []api.Piece, order []int) bool {
	t.Helper()
	is, e := piece.IsOrder(l, order)
	wantErr(t, "IsOrder", e, api.OK)
	return is
}
