package slip_test

import (
	"math/rand"
	"regexp"
	"slices"
	"strings"
	"testing"

	"pecia/api"
	"pecia/slip"
)

// TestPrint is of P2.10 and P2.17: these are texts of lists, and the lists of these texts.
func TestPrint(t *testing.T) {
	for _, x := range []struct {
		text string
		l    []api.Slip
	}{
		{"", nil},
		{"leap 2 2 3; mix 5 2 8; twice 7 4 1", exampleList()},
		{"mix 0 0 1", []api.Slip{mix(0, 0, 1)}},
		{"mix 99 99 9999", []api.Slip{mix(99, 99, api.MaxWord)}},
		{"omit 0 0", []api.Slip{omit(0, 0)}},
		{"omit 99 99", []api.Slip{omit(99, 99)}},
		{"leap 0 10 0", []api.Slip{leap(0, 10, 0)}},
		{"leap 99 99 99", []api.Slip{leap(99, 99, 99)}},
		{"twice 3 0 0", []api.Slip{twice(3, 0, 0)}},
		{"twice 99 99 99", []api.Slip{twice(99, 99, 99)}},
		{"gloss 30 20 10", []api.Slip{gloss(30, 20, 10)}},
		{"gloss 1 2 99", []api.Slip{gloss(1, 2, 99)}},
		{"add 1 2 3; add 1 2 3", []api.Slip{add(1, 2, 3), add(1, 2, 3)}},
		{"add 9 8 9999; omit 1 0", []api.Slip{add(9, 8, api.MaxWord), omit(1, 0)}},
		{"omit 1 2" + strings.Repeat("; omit 1 2", api.MaxSlips-1), slices.Repeat([]api.Slip{omit(1, 2)}, api.MaxSlips)},
	} {
		text, e := slip.Print(x.l)
		wantErr(t, x.text, e, api.OK)
		want(t, x.text, text, x.text)
		l, e, at := slip.Parse(x.text)
		if e != api.OK || at != -1 {
			t.Error("Parse", x.text, e, at)
		}
		want(t, x.text, l, x.l)
	}
}

// TestPrintErrors is of P2.10.
func TestPrintErrors(t *testing.T) {
	for _, x := range []struct {
		what string
		l    []api.Slip
		e    api.Errno
	}{
		{"too many slips", slices.Repeat([]api.Slip{omit(1, 2)}, api.MaxSlips+1), api.ErrLimit},
		{"too many wrong slips", make([]api.Slip, api.MaxSlips+1), api.ErrLimit},
		{"kind 0", []api.Slip{{}}, api.ErrForm},
		{"kind 7", []api.Slip{{Kind: 7}}, api.ErrForm},
		{"kind -1", []api.Slip{{Kind: -1}}, api.ErrForm},
		{"At -1", []api.Slip{omit(-1, 0)}, api.ErrForm},
		{"At 100", []api.Slip{omit(100, 0)}, api.ErrForm},
		{"In -1", []api.Slip{omit(0, -1)}, api.ErrForm},
		{"In 100", []api.Slip{omit(0, 100)}, api.ErrForm},
		{"leap -1", []api.Slip{leap(0, 0, -1)}, api.ErrForm},
		{"leap 100", []api.Slip{leap(0, 0, 100)}, api.ErrForm},
		{"twice 100", []api.Slip{twice(0, 0, 100)}, api.ErrForm},
		{"gloss 100", []api.Slip{gloss(0, 0, 100)}, api.ErrForm},
		{"mix to 0", []api.Slip{mix(0, 0, 0)}, api.ErrForm},
		{"mix to a word too great", []api.Slip{mix(0, 0, api.MaxWord+1)}, api.ErrForm},
		{"add 0", []api.Slip{add(0, 0, 0)}, api.ErrForm},
		{"add -1", []api.Slip{add(0, 0, -1)}, api.ErrForm},
		{"add a word too great", []api.Slip{add(0, 0, api.MaxWord+1)}, api.ErrForm},
		{"mix with Long", []api.Slip{{Kind: api.SlMix, Long: 1, Word: 1}}, api.ErrForm},
		{"omit with Long", []api.Slip{{Kind: api.SlOmit, Long: 1}}, api.ErrForm},
		{"omit with Word", []api.Slip{{Kind: api.SlOmit, Word: 1}}, api.ErrForm},
		{"omit with Word -1", []api.Slip{{Kind: api.SlOmit, Word: -1}}, api.ErrForm},
		{"leap with Word", []api.Slip{{Kind: api.SlLeap, Long: 1, Word: 1}}, api.ErrForm},
		{"twice with Word", []api.Slip{{Kind: api.SlTwice, Long: 1, Word: 1}}, api.ErrForm},
		{"gloss with Word", []api.Slip{{Kind: api.SlGloss, Long: 1, Word: 1}}, api.ErrForm},
		{"add with Long", []api.Slip{{Kind: api.SlAdd, Long: 1, Word: 1}}, api.ErrForm},
		{"right, then wrong", []api.Slip{omit(0, 0), {}}, api.ErrForm},
		{"wrong, then right", []api.Slip{{}, omit(0, 0)}, api.ErrForm},
	} {
		text, e := slip.Print(x.l)
		check(t, x.what, e, x.e, text != "")
	}
}

// TestParseErrors is of P2.10.
func TestParseErrors(t *testing.T) {
	for _, x := range []struct {
		text string
		e    api.Errno
		at   int
	}{
		{" ", api.ErrForm, 0},
		{"omit", api.ErrForm, 0},
		{"omit 0", api.ErrForm, 0},
		{"omit 0 0 0", api.ErrForm, 0},
		{"omit 0 0 ", api.ErrForm, 0},
		{" omit 0 0", api.ErrForm, 0},
		{"omit  0 0", api.ErrForm, 0},
		{"omit\t0 0", api.ErrForm, 0},
		{"omit 0 0\n", api.ErrForm, 0},
		{"Omit 0 0", api.ErrForm, 0},
		{"omits 0 0", api.ErrForm, 0},
		{"keep 0 0", api.ErrForm, 0},
		{" 0 0", api.ErrForm, 0},
		{"0 0", api.ErrForm, 0},
		{"omit 00 0", api.ErrForm, 0},
		{"omit 0 01", api.ErrForm, 0},
		{"omit -0 0", api.ErrForm, 0},
		{"omit +1 0", api.ErrForm, 0},
		{"omit -1 0", api.ErrForm, 0},
		{"omit 100 0", api.ErrForm, 0},
		{"omit 0 100", api.ErrForm, 0},
		{"omit 1_0 0", api.ErrForm, 0},
		{"omit 0x1 0", api.ErrForm, 0},
		{"omit a 0", api.ErrForm, 0},
		{"omit 0 \u0661", api.ErrForm, 0},
		{"omit 99999999999999999999 0", api.ErrForm, 0},
		{"mix 0 0", api.ErrForm, 0},
		{"mix 0 0 0", api.ErrForm, 0},
		{"mix 0 0 10000", api.ErrForm, 0},
		{"mix 0 0 1 1", api.ErrForm, 0},
		{"leap 0 0", api.ErrForm, 0},
		{"leap 0 0 100", api.ErrForm, 0},
		{"twice 0 0 100", api.ErrForm, 0},
		{"gloss 0 0 100", api.ErrForm, 0},
		{"gloss 0 0", api.ErrForm, 0},
		{"add 0 0", api.ErrForm, 0},
		{"add 0 0 0", api.ErrForm, 0},
		{"add 0 0 -1", api.ErrForm, 0},
		{"add 0 0 10000", api.ErrForm, 0},
		{";", api.ErrForm, 0},
		{"; omit 0 0", api.ErrForm, 0},
		{"omit 0 0;", api.ErrForm, 1},
		{"omit 0 0; ", api.ErrForm, 1},
		{"omit 0 0;omit 0 0", api.ErrForm, 1},
		{"omit 0 0;  omit 0 0", api.ErrForm, 1},
		{"omit 0 0 ; omit 0 0", api.ErrForm, 0},
		{"omit 0 0;; omit 0 0", api.ErrForm, 1},
		{"omit 0 0; add 0 0 1; omit 0", api.ErrForm, 2},
		{"omit 0 0; add 0 0 1; omit 0; x", api.ErrForm, 2},
		{"omit 0 0, omit 0 0", api.ErrForm, 0},
		{strings.Repeat(";", api.MaxSlips-1), api.ErrForm, 0},
		{"omit 0 0" + strings.Repeat("; omit 0 0", api.MaxSlips-2) + ";", api.ErrForm, api.MaxSlips - 1},
		{strings.Repeat(";", api.MaxSlips), api.ErrLimit, -1},
		{"omit 0 0" + strings.Repeat("; omit 0 0", api.MaxSlips), api.ErrLimit, -1},
	} {
		l, e, at := slip.Parse(x.text)
		if e != x.e || at != x.at || len(l) > 0 {
			t.Errorf("Parse of %.30q: %v, %d, %d, want %d, %d", x.text, l, e, at, x.e, x.at)
		}
	}
}

// TestParseForms is of P2.10 and P2.17: many texts, by the sentences of the document.
func TestParseForms(t *testing.T) {
	const number, word = `(0|[1-9][0-9]?)`, `[1-9][0-9]{0,3}`
	part := regexp.MustCompile(strings.NewReplacer("N", number, "W", word).Replace(`\A(omit N N|(leap|twice|gloss) N N N|(mix|add) N N W)\z`))
	r := rand.New(rand.NewSource(10))
	tokens := []string{"omit 1 2", "leap 3 4 5", "add 1 2 3", "mix 0 99 9999", "; ", "; ", "; ", ";", " ", "0", "1", "gloss 7 ", "twice 1 2", " 3"}
	seen := map[api.Errno]int{}
	for range 30000 {
		var b strings.Builder
		for range 1 + r.Intn(6) {
			b.WriteString(tokens[r.Intn(len(tokens))])
		}
		text := b.String()
		should, index := api.OK, -1
		for i, p := range strings.Split(text, ";") {
			if i > 0 {
				if !strings.HasPrefix(p, " ") {
					p = "x"
				}
				p = p[1:]
			}
			if !part.MatchString(p) {
				should, index = api.ErrForm, i
				break
			}
		}
		l, e, at := slip.Parse(text)
		seen[e]++
		if e != should || at != index || e != api.OK && len(l) > 0 {
			t.Errorf("Parse of %q: %v, %d, %d", text, l, e, at)
		}
		if e == api.OK {
			if again, f := slip.Print(l); f != api.OK || again != text {
				t.Errorf("Print of Parse of %q: %q, %d", text, again, f)
			}
		}
	}
	if seen[api.OK] < 100 || seen[api.ErrForm] < 100 {
		t.Error("too few texts of a sort:", seen)
	}
}

// TestTextsAgree is of P2.17.
func TestTextsAgree(t *testing.T) {
	r := rand.New(rand.NewSource(17))
	for range 500 {
		var l []api.Slip
		for range r.Intn(api.MaxSlips + 1) {
			at, in, long, word := r.Intn(100), r.Intn(100), r.Intn(100), 1+r.Intn(api.MaxWord)
			l = append(l, []api.Slip{mix(at, in, word), omit(at, in), leap(at, in, long), twice(at, in, long), gloss(at, in, long), add(at, in, word)}[r.Intn(6)])
		}
		text, e := slip.Print(l)
		wantErr(t, "Print", e, api.OK)
		again, e, at := slip.Parse(text)
		if e != api.OK || at != -1 {
			t.Error("Parse", text, e, at)
		}
		want(t, "Parse of Print", again, l)
	}
}
