package piece

import (
	"slices"
	"strconv"
	"strings"

	"pecia/api"
)

// maxSign is how many letters a sign has at most.
const maxSign = 3

// wrongByte is the index of a byte that cannot stand where it does; readers of collations panic with it.
type wrongByte int

// Parse returns the quires of a collation.
func Parse(text string) ([]api.Quire, api.Errno, int) {
	if len(text) > api.MaxCollate {
		return nil, api.ErrLimit, 0
	}
	l, e, at := read(text)
	if e != api.OK {
		return nil, e, at
	}
	if e := checkQuires(l); e != api.OK {
		return nil, e, 0
	}
	return l, api.OK, 0
}

// read returns the quires of a text, whatever their numbers and signs are; or ErrForm and the index of the first wrong byte.
func read(text string) (l []api.Quire, e api.Errno, index int) {
	defer func() {
		if at, is := recover().(wrongByte); is {
			l, e, index = nil, api.ErrForm, int(at)
		}
	}()
	if text == "" {
		return nil, api.OK, 0
	}
	var r reader
	for at, c := range text {
		r.take(at, c)
	}
	r.endQuire(len(text))
	return r.quires, api.OK, 0
}

// A reader has the quires that were read, and what there is of the next one.
type reader struct {
	quires  []api.Quire
	sign    string
	numbers []int // the leaves, and then those that are gone
	digits  int   // how many the last number has; 0 where a number has to begin
}

// take reads the next byte. (A character of several bytes fits nowhere, so that only its first one matters.)
func (r *reader) take(at int, c rune) {
	switch {
	case isLetter(c) && len(r.numbers) == 0 && len(r.sign) < maxSign:
		r.sign += string(c)
	case isDigit(c) && c != '0' && r.sign != "" && r.digits == 0:
		r.numbers = append(r.numbers, int(c-'0'))
		r.digits = 1
	case isDigit(c) && r.digits == 1:
		last := len(r.numbers) - 1
		r.numbers[last] = r.numbers[last]*10 + int(c-'0')
		r.digits = 2
	case c == '-' && r.digits > 0:
		r.digits = 0
	case c == ' ':
		r.endQuire(at)
	default:
		panic(wrongByte(at))
	}
}

// endQuire ends the quire ahead of an index.
func (r *reader) endQuire(at int) {
	if r.digits == 0 {
		panic(wrongByte(at))
	}
	r.quires = append(r.quires, api.Quire{Sign: r.sign, Leaves: r.numbers[0], Gone: r.numbers[1:]})
	r.sign, r.numbers, r.digits = "", nil, 0
}

func isLetter(c rune) bool { return 'A' <= c && c <= 'Z' }

func isDigit(c rune) bool { return '0' <= c && c <= '9' }

// checkQuires returns the first error of quires.
func checkQuires(l []api.Quire) api.Errno {
	if len(l) > api.MaxQuires {
		return api.ErrLimit
	}
	seen := map[string]bool{}
	for _, q := range l {
		if !isQuire(q) {
			return api.ErrArg
		}
		if seen[q.Sign] {
			return api.ErrTwice
		}
		seen[q.Sign] = true
	}
	return api.OK
}

func isQuire(q api.Quire) bool {
	return isSign(q.Sign) && q.Leaves%2 == 0 && within(q.Leaves, 2, api.MaxLeaves) && areGone(q.Gone, q.Leaves)
}

func isSign(sign string) bool {
	for _, c := range sign {
		if !isLetter(c) || c != rune(sign[0]) {
			return false
		}
	}
	return within(len(sign), 1, maxSign)
}

func areGone(gone []int, leaves int) bool {
	before := 0
	for _, n := range gone {
		if n <= before || n > leaves {
			return false
		}
		before = n
	}
	return true
}

// Print returns the collation of quires.
func Print(l []api.Quire) (string, api.Errno) {
	if e := checkQuires(l); e != api.OK {
		return "", e
	}
	var parts []string
	for _, q := range l {
		text := q.Sign + strconv.Itoa(q.Leaves)
		for _, n := range q.Gone {
			text += "-" + strconv.Itoa(n)
		}
		parts = append(parts, text)
	}
	return strings.Join(parts, " "), api.OK
}

// LeafOf returns the leaf with a number of a book, from 1 on.
func LeafOf(l []api.Quire, n int) (api.Leaf, api.Errno) {
	if e := checkQuires(l); e != api.OK {
		return api.Leaf{}, e
	}
	leaves := leavesOf(l)
	if !within(n, 1, len(leaves)) {
		return api.Leaf{}, api.ErrNone
	}
	return leaves[n-1], api.OK
}

// NumberOf returns the number of a leaf in its book.
func NumberOf(l []api.Quire, f api.Leaf) (int, api.Errno) {
	if e := checkQuires(l); e != api.OK {
		return 0, e
	}
	at := slices.Index(leavesOf(l), f)
	if at < 0 {
		return 0, api.ErrArg
	}
	return at + 1, api.OK
}

// Partner returns the leaf that hangs together with another one.
func Partner(l []api.Quire, f api.Leaf) (api.Leaf, bool, api.Errno) {
	if e := checkQuires(l); e != api.OK {
		return api.Leaf{}, false, e
	}
	leaves := leavesOf(l)
	if !slices.Contains(leaves, f) {
		return api.Leaf{}, false, api.ErrArg
	}
	partner := api.Leaf{Quire: f.Quire, Number: l[f.Quire].Leaves + 1 - f.Number}
	if !slices.Contains(leaves, partner) {
		return api.Leaf{}, false, api.OK
	}
	return partner, true, api.OK
}

// leavesOf returns the leaves of a book.
func leavesOf(l []api.Quire) []api.Leaf {
	var leaves []api.Leaf
	for i, q := range l {
		for n := 1; n <= q.Leaves; n++ {
			if !slices.Contains(q.Gone, n) {
				leaves = append(leaves, api.Leaf{Quire: i, Number: n})
			}
		}
	}
	return leaves
}
