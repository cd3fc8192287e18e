package slip

import (
	"slices"

	"pecia/api"
)

// A writer makes a copy of a text, slip by slip.
type writer struct {
	c       api.Copying
	at      int // how many words of the text are done
	written []int
	cost    int
}

// inAt returns how many words are written up to an At of the text that is still ahead.
func (w *writer) inAt(at int) int { return len(w.written) + at - w.at }

func (w *writer) keepUpTo(at int) {
	w.written = append(w.written, w.c.Text[w.at:at]...)
	w.at = at
}

// take keeps words up to a slip, and writes this; it reports whether that can be.
func (w *writer) take(s api.Slip) bool {
	done, is := effectOf(w.c, s)
	if !is || s.At < w.at || s.In != w.inAt(s.At) {
		return false
	}
	w.keepUpTo(s.At)
	w.written = append(w.written, done.writes...)
	w.at = done.at
	w.cost += done.cost
	return true
}

// write returns what slips make, and what they cost; or an error.
func write(c api.Copying, l []api.Slip) ([]int, int, api.Errno) {
	if len(l) > api.MaxSlips {
		return nil, 0, api.ErrLimit
	}
	w := writer{c: c}
	for _, s := range l {
		if !w.take(s) {
			return nil, 0, api.ErrForm
		}
	}
	w.keepUpTo(len(c.Text))
	return w.written, w.cost, api.OK
}

// Write returns the copy that a list of slips makes of the text.
func Write(c api.Copying, l []api.Slip) ([]int, api.Errno) {
	if e := Check(c); e != api.OK {
		return nil, e
	}
	words, _, e := write(c, l)
	return words, e
}

// Explains reports whether a list of slips makes the copy of the text, and what it costs.
func Explains(c api.Copying, l []api.Slip) (int, bool, api.Errno) {
	if e := Check(c); e != api.OK {
		return 0, false, e
	}
	cost, is := explains(c, l)
	return cost, is, api.OK
}

func explains(c api.Copying, l []api.Slip) (int, bool) {
	words, cost, e := write(c, l)
	if e != api.OK || !slices.Equal(words, c.Copy) {
		return 0, false
	}
	return cost, true
}

// Mend returns the copy, and the list, with one slip mended.
func Mend(c api.Copying, l []api.Slip, k int) (api.Copying, []api.Slip, api.Errno) {
	if e := Check(c); e != api.OK {
		return api.Copying{}, nil, e
	}
	if _, is := explains(c, l); !is || !within(k, 0, len(l)-1) {
		return api.Copying{}, nil, api.ErrArg
	}
	w := writer{c: c}
	var left []api.Slip
	for i, s := range l {
		if i == k {
			continue
		}
		// With its new In a slip can always be taken: whether it is right depends on the text alone.
		s.In = w.inAt(s.At)
		w.take(s)
		left = append(left, s)
	}
	w.keepUpTo(len(c.Text))
	if len(w.written) > api.MaxLong {
		return api.Copying{}, nil, api.ErrLimit
	}
	mended := clone(c)
	mended.Copy = w.written
	return mended, left, api.OK
}

// Shared returns the slips that two lists share.
func Shared(a, b []api.Slip) ([]api.Slip, api.Errno) {
	if len(a) > api.MaxSlips || len(b) > api.MaxSlips {
		return nil, api.ErrLimit
	}
	others := map[api.Slip]bool{}
	for _, s := range b {
		s.In = 0
		others[s] = true
	}
	var shared []api.Slip
	for _, s := range a {
		s.In = 0
		if others[s] {
			shared = append(shared, s)
		}
	}
	slices.SortFunc(shared, compare)
	return slices.Compact(shared), api.OK
}
