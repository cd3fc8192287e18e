package slip

import (
	"iter"
	"slices"

	"pecia/api"
)

// A place is how many words of the text are done, and how many of the copy are written.
type place struct{ at, in int }

// level returns how many words are done and written together: each step leads to a higher level.
func (p place) level() int { return p.at + p.in }

// A step leads from one place of a copying to another one, by a slip, or by a word that is kept.
type step struct {
	slip     api.Slip // zero if a word is kept
	from, to place
	cost     int
}

func (s step) isSlip() bool { return s.slip.Kind != keep }

// crosses reports whether a step leads beyond a level. Each list has just one step that does.
func (s step) crosses(level int) bool { return s.from.level() <= level && level < s.to.level() }

// passes reports whether a step leads beyond a word of the text. Each list has just one step that does.
func (s step) passes(word int) bool { return s.from.at <= word && word < s.to.at }

// An effect is how many words of the text are done behind a slip, what the slip writes, and what it costs.
type effect struct {
	at     int
	writes []int
	cost   int
}

// effectOf returns the effect of a slip, if it is right at its At, wherever its In is.
func effectOf(c api.Copying, s api.Slip) (effect, bool) {
	if s.Long != 0 && !hasLong(s.Kind) || s.Word != 0 && !hasWord(s.Kind) || !within(s.At, 0, len(c.Text)) {
		return effect{}, false
	}
	switch s.Kind {
	case mix:
		return mixed(c, s)
	case omit:
		return effect{s.At + 1, nil, c.Hand.Omit}, s.At < len(c.Text)
	case leap:
		return effect{s.At + s.Long, nil, c.Hand.Leap}, canLeap(c.Text, s.At, s.Long)
	case twice:
		if within(s.Long, 1, s.At) {
			return effect{s.At, c.Text[s.At-s.Long : s.At], c.Hand.Twice}, true
		}
	case gloss:
		if within(s.Long, 0, len(c.Glosses)-1) && c.Glosses[s.Long].At == s.At {
			return effect{s.At, c.Glosses[s.Long].Words, c.Hand.Gloss}, true
		}
	case add:
		return effect{s.At, []int{s.Word}, c.Hand.Add}, isWord(s.Word)
	}
	return effect{}, false
}

func mixed(c api.Copying, s api.Slip) (effect, bool) {
	if s.At < len(c.Text) {
		for _, x := range c.Hand.Mixes {
			if x.From == c.Text[s.At] && x.To == s.Word {
				return effect{s.At + 1, []int{s.Word}, x.Cost}, true
			}
		}
	}
	return effect{}, false
}

func canLeap(text []int, at, long int) bool {
	return at > 0 && within(long, 1, len(text)-at) && text[at+long-1] == text[at-1]
}

// stepsFrom yields the steps from a place by which what the copy has there is written: the word that is kept, and then slips in order.
func stepsFrom(c api.Copying, from place) iter.Seq[step] {
	return func(yield func(step) bool) {
		rest := c.Copy[from.in:]
		if from.at < len(c.Text) && begins(rest, c.Text[from.at:from.at+1]) {
			if !yield(step{from: from, to: place{from.at + 1, from.in + 1}}) {
				return
			}
		}
		for s := range slipsToTry(c, from) {
			done, is := effectOf(c, s)
			if !is || !begins(rest, done.writes) {
				continue
			}
			to := place{done.at, from.in + len(done.writes)}
			if !yield(step{s, from, to, done.cost}) {
				return
			}
		}
	}
}

func begins(words, with []int) bool {
	return len(words) >= len(with) && slices.Equal(words[:len(with)], with)
}

// slipsToTry yields, in order, all slips that can be right at a place and write what the copy has there, and others.
func slipsToTry(c api.Copying, from place) iter.Seq[api.Slip] {
	return func(yield func(api.Slip) bool) {
		for kind := mix; kind <= add; kind++ {
			s := api.Slip{Kind: kind, At: from.at, In: from.in}
			if hasWord(kind) && from.in < len(c.Copy) {
				s.Word = c.Copy[from.in]
			}
			for s.Long = range longs(c, kind, from.at) {
				if !yield(s) {
					return
				}
			}
		}
	}
}

// longs returns below which number the Long of each right slip of a kind is.
func longs(c api.Copying, kind, at int) int {
	switch kind {
	case leap:
		return len(c.Text) - at + 1
	case twice:
		return at + 1
	case gloss:
		return len(c.Glosses)
	}
	return 1
}

// steps yields all steps of a copying, in the order of the places from which they lead. So all steps to a place come before those from it.
func steps(c api.Copying) iter.Seq[step] {
	return func(yield func(step) bool) {
		for at := range len(c.Text) + 1 {
			for in := range len(c.Copy) + 1 {
				for s := range stepsFrom(c, place{at, in}) {
					if !yield(s) {
						return
					}
				}
			}
		}
	}
}
