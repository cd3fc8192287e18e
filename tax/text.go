package tax

import (
	"strconv"
	"strings"

	"pecia/api"
)

// maxDigits is how many digits a number of a text has at most.
const maxDigits = 13

// Print returns an amount as text.
func Print(c api.Coinage, n int) (string, api.Errno) {
	if e := checkAmount(c, n); e != api.OK {
		return "", e
	}
	return textOf(c, n), api.OK
}

func textOf(c api.Coinage, n int) string {
	var words []string
	for kind, coins := range split(c, n) {
		if coins != 0 {
			words = append(words, strconv.Itoa(coins), c.Names[kind])
		}
	}
	if n == 0 {
		words = append(words, "0", c.Names[len(c.Names)-1])
	}
	return strings.Join(words, " ")
}

// Parse returns the amount of a text.
func Parse(c api.Coinage, text string) (int, api.Errno, int) {
	if e := CheckCoinage(c); e != api.OK {
		return 0, e, 0
	}
	if len(text) > api.MaxAmount {
		return 0, api.ErrLimit, 0
	}
	coins, e, at := read(c, wordsOf(text))
	if e != api.OK {
		return 0, e, at
	}
	n, e := Unite(c, coins)
	if e != api.OK || textOf(c, n) != text {
		return 0, api.ErrForm, 0
	}
	return n, api.OK, 0
}

// wordsOf returns what stands between two blanks of a text, and between a blank and an end.
func wordsOf(text string) []string {
	var words []string
	begin := 0
	for at, c := range text {
		if c == ' ' {
			words = append(words, text[begin:at])
			begin = at + 1
		}
	}
	return append(words, text[begin:])
}

// read returns how many coins of each kind words tell, even if they are too many; or ErrForm and the index of the first wrong word.
func read(c api.Coinage, words []string) ([]int, api.Errno, int) {
	kinds := kindsOf(c)
	coins := make([]int, len(c.Names))
	number, next := 0, 0
	for i, word := range words {
		if i%2 == 0 {
			n, is := numberOf(word)
			if !is || n == 0 && i > 0 {
				return nil, api.ErrForm, i
			}
			number = n
			continue
		}
		kind, is := kinds[word]
		if !is || kind < next {
			return nil, api.ErrForm, i
		}
		coins[kind] = number
		next = kind + 1
	}
	if len(words)%2 != 0 {
		return nil, api.ErrForm, len(words)
	}
	return coins, api.OK, 0
}

// numberOf returns the number of a word, and whether the word is one.
func numberOf(word string) (int, bool) {
	if !within(len(word), 1, maxDigits) || word[0] == '0' && len(word) > 1 {
		return 0, false
	}
	n := 0
	for _, c := range word {
		if c < '0' || c > '9' {
			return 0, false
		}
		n = n*10 + int(c-'0')
	}
	return n, true
}
