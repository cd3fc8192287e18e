package tax_test

import (
	"math/rand"
	"regexp"
	"slices"
	"strconv"
	"strings"
	"testing"

	"pecia/api"
	"pecia/tax"
)

// wantText is that an amount has a text, and this text the amount.
func wantText(t *testing.T, c api.Coinage, n int, should string) {
	t.Helper()
	text, e := tax.Print(c, n)
	wantErr(t, should, e, api.OK)
	want(t, "Print", text, should)
	m, e, at := tax.Parse(c, should)
	if m != n || e != api.OK || at != 0 {
		t.Errorf("Parse of %q: %d, %d, %d", should, m, e, at)
	}
}

// TestTexts is of P7.3.
func TestTexts(t *testing.T) {
	wantText(t, pounds(), 1000, "4 li 3 s 4 d")
	wantText(t, pounds(), 240, "1 li")
	wantText(t, pounds(), 0, "0 d")
	wantText(t, pounds(), 1, "1 d")
	wantText(t, pounds(), 12, "1 s")
	wantText(t, pounds(), 40, "3 s 4 d")
	wantText(t, pounds(), 243, "1 li 3 d")
	wantText(t, pounds(), 252, "1 li 1 s")
	wantText(t, pounds(), 239, "19 s 11 d")
	wantText(t, pounds(), 2400, "10 li")
	wantText(t, pounds(), most, "4581298449 li 1 s 4 d")
	wantText(t, coinage(names("d")), 0, "0 d")
	wantText(t, coinage(names("d")), most, "1099511627776 d")
	deep := coinage(names("abcd", "abc", "ab", "a", "aa", "aaa"), 256, 256, 256, 256, 256)
	wantText(t, deep, 0, "0 aaa")
	wantText(t, deep, most, "1 abcd")
	wantText(t, deep, most-1, "255 abc 255 ab 255 a 255 aa 255 aaa")
	wantText(t, coinage(names("x", "y"), 1000), 100010, "100 x 10 y")
}

// TestPrintErrors is of P7.3.
func TestPrintErrors(t *testing.T) {
	for _, n := range append(far(), most+1) {
		text, e := tax.Print(pounds(), n)
		check(t, n, e, api.ErrArg, text != "")
	}
}

// TestParseErrors is of P7.3.
func TestParseErrors(t *testing.T) {
	long := strings.Repeat("9", 13)
	for _, x := range []struct {
		text string
		at   int
	}{
		{"", 0},
		{" ", 0},
		{"  ", 0},
		{"3", 1},
		{"0", 1},
		{"d", 0},
		{"d 3", 0},
		{"3 d ", 2},
		{" 3 d", 0},
		{"3  d", 1},
		{"3 s  4 d", 2},
		{"3 s 4", 3},
		{"1 li 3 s 4", 5},
		{"3 s 4 ", 3},
		{"3 ", 1},
		{"4 d 3 s", 3},
		{"3 s 4 s", 3},
		{"3 s 4 li", 3},
		{"1 d 1 d", 3},
		{"1 li 1 d 1 s", 5},
		{"1 li 1 s 1 d 1 d", 7},
		{"3 x", 1},
		{"3 D", 1},
		{"3 l", 1},
		{"3 lis", 1},
		{"3 d.", 1},
		{"3d", 0},
		{"3s 4d", 0},
		{"03 d", 0},
		{"00 d", 0},
		{"+3 d", 0},
		{"-3 d", 0},
		{"3. d", 0},
		{"0x3 d", 0},
		{"1_0 d", 0},
		{"1e3 d", 0},
		{"3 s 04 d", 2},
		{"3 s 0 d", 2},
		{"3 s -4 d", 2},
		{"3 s 00 d", 2},
		{"1" + long + " d", 0},
		{"1 s 1" + long + " d", 2},
		{long + " x", 1},
		{"3\td", 0},
		{"3 d\n", 1},
		{"3\u00a0d", 0},
		{"\u0663 d", 0}, // a digit, but not of ours
		{"3 \u0434", 1},
		{"\xff d", 0},
		{"3 \xff", 1},
		{"3 d\x00", 1},
		{"x x", 0},
		{"3 x y", 1},
		{"0 d 3", 3},
		{"0 d 0 d", 2},
		{"0 li 0 s", 2},
		// the words are as they must be, but this is not the text of an amount
		{"13 d", 0},
		{"12 d", 0},
		{"20 s", 0},
		{"19 s 12 d", 0},
		{"20 s 1 d", 0},
		{"0 li", 0},
		{"0 s", 0},
		{"0 li 3 s", 0},
		{"0 s 3 d", 0},
		{"1 li 240 d", 0},
		{long + " d", 0},
		{long + " li", 0},
		{long + " li " + long + " s " + long + " d", 0},
		{"4581298449 li 1 s 5 d", 0},
		{"4581298449 li 2 s", 0},
		{"4581298450 li", 0},
		{"1099511627776 d", 0},
	} {
		n, e, at := tax.Parse(pounds(), x.text)
		if n != 0 || e != api.ErrForm || at != x.at {
			t.Errorf("Parse of %q: %d, %d, %d, want %d, %d", x.text, n, e, at, api.ErrForm, x.at)
		}
	}
}

// TestParseBounds is of P7.3.
func TestParseBounds(t *testing.T) {
	for _, x := range []struct {
		c    api.Coinage
		text string
		e    api.Errno
		at   int
	}{
		{pounds(), strings.Repeat("1", 100), api.ErrForm, 0},
		{pounds(), "1 d" + strings.Repeat(" ", 97), api.ErrForm, 2},
		{pounds(), "1 " + strings.Repeat("d", 98), api.ErrForm, 1},
		{pounds(), "1 d" + strings.Repeat(" ", 98), api.ErrLimit, 0},
		{pounds(), strings.Repeat("1", 101), api.ErrLimit, 0},
		{pounds(), strings.Repeat("x ", 5000), api.ErrLimit, 0},
		{pounds(), "1 li " + strings.Repeat("\u00e4", 48), api.ErrLimit, 0}, // bytes, not letters
		{pounds(), "1 li " + strings.Repeat("\u00e4", 47), api.ErrForm, 2},
		{coinage(names("d")), "1099511627777 d", api.ErrForm, 0},
		{coinage(names("d")), "9999999999999 d", api.ErrForm, 0},
		{coinage(names("d")), "10999999999999 d", api.ErrForm, 0},
		{coinage(six(), 256, 256, 256, 256, 256), "1 a 1 f", api.ErrForm, 0},
		{coinage(six(), 256, 256, 256, 256, 256), "16777216 a", api.ErrForm, 0}, // nothing at all, in 64 bits
		{coinage(six(), 256, 256, 256, 256, 256), "16777216 a 1 f", api.ErrForm, 0},
	} {
		n, e, at := tax.Parse(x.c, x.text)
		if n != 0 || e != x.e || at != x.at {
			t.Errorf("Parse of %.20q: %d, %d, %d, want %d, %d", x.text, n, e, at, x.e, x.at)
		}
	}
}

// textOf is the text of coins, and the number that they are together.
func textOf(c api.Coinage, coins []int) (string, int) {
	var words []string
	n := 0
	for i, name := range c.Names {
		if i > 0 {
			n *= c.Radix[i-1]
		}
		n += coins[i]
		if coins[i] > 0 {
			words = append(words, strconv.Itoa(coins[i])+" "+name)
		}
	}
	if len(words) == 0 {
		return "0 " + c.Names[len(c.Names)-1], 0
	}
	return strings.Join(words, " "), n
}

// parse is what Parse should return, for numbers of which none is great.
func parse(c api.Coinage, text string) (int, api.Errno, int) {
	number := regexp.MustCompile(`\A[1-9][0-9]{0,12}\z`)
	words := strings.Split(text, " ")
	coins := make([]int, len(c.Names))
	before := -1
	for i, word := range words {
		kind := slices.Index(c.Names, word)
		switch {
		case i%2 == 0 && !number.MatchString(word) && (i > 0 || word != "0"):
			return 0, api.ErrForm, i
		case i%2 == 1 && kind <= before:
			return 0, api.ErrForm, i
		case i%2 == 1:
			coins[kind], _ = strconv.Atoi(words[i-1])
			before = kind
		}
	}
	if len(words)%2 == 1 {
		return 0, api.ErrForm, len(words)
	}
	right := true
	for i, n := range coins {
		right = right && (i == 0 || n < c.Radix[i-1])
	}
	if should, n := textOf(c, coins); right && text == should {
		return n, api.OK, 0
	}
	return 0, api.ErrForm, 0
}

// TestParseForms is of P7.3: for many texts, Parse is as its promise says; and of P7.9.
func TestParseForms(t *testing.T) {
	r := rand.New(rand.NewSource(2))
	numbers := names("0", "1", "2", "5", "11", "12", "19", "20", "30", "999")
	wrongWords := names("", "01", "x", "7d", "li", "s", "d", "3")
	seen := map[int]int{}
	for range 30000 {
		c := coinages()[r.Intn(2)*r.Intn(5)]
		var words []string
		kind := 0
		for range r.Intn(2*len(c.Names)) + 1 {
			word := numbers[r.Intn(len(numbers))]
			if len(words)%2 == 1 {
				word = c.Names[min(kind, len(c.Names)-1)]
				kind += 1 + r.Intn(4)/3
			}
			if r.Intn(12) == 0 {
				word = wrongWords[r.Intn(len(wrongWords))]
			}
			words = append(words, word)
		}
		text := strings.Join(words, " ")
		n, e, at := tax.Parse(c, text)
		m, f, should := parse(c, text)
		if n != m || e != f || at != should {
			t.Errorf("Parse of %q: %d, %d, %d, want %d, %d, %d", text, n, e, at, m, f, should)
		}
		if e == api.OK {
			again, f := tax.Print(c, n)
			wantErr(t, text, f, api.OK)
			want(t, "P7.9: Print of Parse", again, text)
			at = -1
		}
		seen[at]++
	}
	for at := -1; at < 6; at++ {
		if seen[at] < 100 {
			t.Error("too few texts of a sort:", seen)
		}
	}
}

// TestPrintAndParse is of P7.3 and P7.9.
func TestPrintAndParse(t *testing.T) {
	r := rand.New(rand.NewSource(3))
	for _, c := range coinages() {
		for range 500 {
			n := someAmount(r, c)
			coins, e := tax.Split(c, n)
			wantErr(t, "Split", e, api.OK)
			should, _ := textOf(c, coins)
			wantText(t, c, n, should)
		}
	}
}
