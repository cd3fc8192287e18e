package slip

import (
	"strconv"
	"strings"

	"pecia/api"
)

// maxPlain is the greatest At, In and Long that a text tells.
const maxPlain = 99

// names has the names of the kinds of slips in texts; a kept word has none.
var names = [...]string{"", "mix", "omit", "leap", "twice", "gloss", "add"}

// wrongPart is the index of a part of a text that is not right; the reader of lists panics with it.
type wrongPart int

// Print returns the text of a list of slips.
func Print(l []api.Slip) (string, api.Errno) {
	if len(l) > api.MaxSlips {
		return "", api.ErrLimit
	}
	var texts []string
	for _, s := range l {
		if !isFormed(s) {
			return "", api.ErrForm
		}
		text := names[s.Kind]
		for _, number := range numbersOf(&s) {
			text += " " + strconv.Itoa(*number)
		}
		texts = append(texts, text)
	}
	return strings.Join(texts, "; "), api.OK
}

// numbersOf returns where a slip has the numbers of its text, in their order.
func numbersOf(s *api.Slip) []*int {
	switch {
	case hasLong(s.Kind):
		return []*int{&s.At, &s.In, &s.Long}
	case hasWord(s.Kind):
		return []*int{&s.At, &s.In, &s.Word}
	}
	return []*int{&s.At, &s.In}
}

func isFormed(s api.Slip) bool {
	long, word := s.Long == 0, s.Word == 0
	if hasLong(s.Kind) {
		long = isPlain(s.Long)
	}
	if hasWord(s.Kind) {
		word = isWord(s.Word)
	}
	return within(s.Kind, mix, add) && isPlain(s.At) && isPlain(s.In) && long && word
}

func isPlain(n int) bool { return within(n, 0, maxPlain) }

// Parse returns the list of slips that a text tells.
func Parse(s string) (l []api.Slip, e api.Errno, index int) {
	if strings.Count(s, ";") > api.MaxSlips-1 {
		return nil, api.ErrLimit, -1
	}
	if s == "" {
		return nil, api.OK, -1
	}
	defer func() {
		if part, is := recover().(wrongPart); is {
			l, e, index = nil, api.ErrForm, int(part)
		}
	}()
	for part, text := range strings.Split(s, ";") {
		if part > 0 {
			after, is := strings.CutPrefix(text, " ")
			if !is {
				panic(wrongPart(part))
			}
			text = after
		}
		l = append(l, readSlip(text, wrongPart(part)))
	}
	return l, api.OK, -1
}

// readSlip returns the slip whose text a part has; it panics with the part if this is none.
func readSlip(text string, part wrongPart) api.Slip {
	words := strings.Split(text, " ")
	s := api.Slip{Kind: kindOf(words[0])}
	numbers := numbersOf(&s)
	if len(words) != 1+len(numbers) {
		panic(part)
	}
	for i, number := range numbers {
		n, is := numberOf(words[i+1])
		if !is {
			panic(part)
		}
		*number = n
	}
	if !isFormed(s) {
		panic(part)
	}
	return s
}

// kindOf returns the kind of slips that has a name; keep if there is none.
func kindOf(name string) int {
	for kind := mix; kind <= add; kind++ {
		if names[kind] == name {
			return kind
		}
	}
	return keep
}

// numberOf returns the number that a text has, if this is just as numbers are written.
func numberOf(text string) (int, bool) {
	n, err := strconv.Atoi(text)
	if err != nil || strconv.Itoa(n) != text {
		return 0, false
	}
	return n, true
}
