package lex

import (
	"go/ast"
	"go/parser"
	"go/token"
	"math"
	"math/big"
	"regexp"
	"slices"
	"strconv"
	"strings"
	"testing"

	"placket/api"
	"placket/fault"
	"placket/quote"
)

// What a token may be, by the chapter's words alone. Bytes stand in these forms as runes.
const (
	twoForm    = `\.\.|==|!=|<=|>=|&&|\|\|`
	singleForm = `[][{}<>(),:.*?!$@]`
)

var (
	blankForm  = regexp.MustCompile(`^[\x20\x09\x0a\x0d]*`)
	numberForm = regexp.MustCompile(`^-?[0-9]*`)
	nameForm   = regexp.MustCompile(`^[A-Za-z_][A-Za-z0-9_]*`)
	signForm   = regexp.MustCompile(`^(?:` + twoForm + `|` + singleForm + `)`)
)

// runes is s with each byte as a rune of its own.
func runes(s string) string {
	var b strings.Builder
	for i := range len(s) {
		b.WriteRune(rune(s[i]))
	}
	return b.String()
}

// length is with how many bytes of that form s begins.
func length(form *regexp.Regexp, s string) int {
	return len([]rune(form.FindString(runes(s))))
}

// next is what Next must tell of s from at on: the token, or an error's number and place.
func next(s string, at int) (api.Token, api.Errno, int) {
	if at < 0 || at > len(s) {
		return api.Token{}, api.ErrArg, 0
	}
	at += length(blankForm, s[at:])
	rest := s[at:]
	if rest == "" {
		return api.Token{Kind: api.TkEnd, At: len(s), End: len(s)}, api.OK, 0
	}
	if rest[0] == '"' {
		says, n, code := quote.Unquote(rest)
		if code != api.OK {
			return api.Token{}, code, at + n
		}
		return api.Token{Kind: api.TkText, At: at, End: at + n, Text: says}, api.OK, 0
	}
	if n := length(numberForm, rest); n > 0 {
		wide, ok := new(big.Int).SetString(rest[:n], 10)
		switch {
		case !ok || wide.String() != rest[:n]:
			return api.Token{}, api.ErrForm, at
		case !wide.IsInt64():
			return api.Token{}, api.ErrRange, at
		}
		return api.Token{Kind: api.TkInt, At: at, End: at + n, Int: wide.Int64()}, api.OK, 0
	}
	if n := length(nameForm, rest); n > 0 {
		return api.Token{Kind: api.TkWord, At: at, End: at + n, Text: rest[:n]}, api.OK, 0
	}
	if n := length(signForm, rest); n > 0 {
		return api.Token{Kind: api.TkSign, At: at, End: at + n, Text: rest[:n]}, api.OK, 0
	}
	return api.Token{}, api.ErrForm, at
}

// all is what All must tell of s.
func all(s string) ([]api.Token, api.Errno, int) {
	if len(s) > 1048576 {
		return nil, api.ErrMany, 0
	}
	var list []api.Token
	x, code, place := next(s, 0)
	for code == api.OK && x.Kind != api.TkEnd {
		list = append(list, x)
		x, code, place = next(s, x.End)
	}
	if code != api.OK {
		return nil, code, place
	}
	return list, api.OK, 0
}

// print is what Print must tell of l.
func print(l []api.Token) string {
	var texts []string
	for _, x := range l {
		switch x.Kind {
		case api.TkSign, api.TkWord:
			texts = append(texts, x.Text)
		case api.TkInt:
			texts = append(texts, strconv.FormatInt(x.Int, 10))
		case api.TkText:
			texts = append(texts, quote.Quote(x.Text))
		default:
			texts = append(texts, "")
		}
	}
	return strings.Join(texts, " ")
}

// checkError holds an error against the number and the place that it must have: nil of OK, else one Fault under which is the Errno itself.
func checkError(t *testing.T, call string, err error, code api.Errno, place int) {
	t.Helper()
	if code == api.OK {
		if err != nil {
			t.Errorf("%s: %v", call, err)
		}
		return
	}
	f, is := err.(*fault.Fault)
	if !is || f == nil {
		t.Fatalf("%s: %v, which is no Fault; want %d at %d", call, err, code, place)
	}
	if under, is := f.Under.(api.Errno); !is || under != code || f.At != place {
		t.Errorf("%s: %v; want %d at %d", call, err, code, place)
	}
}

func checkNext(t *testing.T, s string, at int) {
	t.Helper()
	want, code, place := next(s, at)
	x, err := Next(s, at)
	call := "Next of " + strconv.Quote(s) + " at " + strconv.Itoa(at)
	checkError(t, call, err, code, place)
	if x != want {
		t.Errorf("%s: %+v; want %+v", call, x, want)
	}
}

// checkAll asks All, and Next at each place and just beside both ends.
func checkAll(t *testing.T, s string) {
	t.Helper()
	want, code, place := all(s)
	l, err := All(s)
	call := "All of " + strconv.Quote(s)
	checkError(t, call, err, code, place)
	if !slices.Equal(l, want) {
		t.Errorf("%s: %+v; want %+v", call, l, want)
	}
	for at := -1; at <= len(s)+1; at++ {
		checkNext(t, s, at)
	}
}

// pieces are tokens, blanks and what breaks a text; whatever is put together of them is a text to be read.
func pieces() []string {
	l := []string{"", " ", "\t", "\n", "\r", " \r\n\t ", "a", "Z9_", "_", "null", "0", "7", "-1", "42", "9223372036854775807", "-9223372036854775808", `""`, `"a b"`, `"\"\\\n\x00\xFF/"`, "\"\x7f\x80\"", "=", "&", "|", "-", "/", "#", "\x00", "\x80", "\xff", "é", "00", "-0", "9223372036854775808", `"`, `"\`, `"\q"`, "\"\x01\""}
	return append(l, "..", "==", "!=", "<=", ">=", "&&", "||", "[", "]", "{", "}", "<", ">", "(", ")", ",", ":", ".", "*", "?", "!", "$", "@")
}

// drawer draws numbers below n that look like any other ones, the same ones each time.
func drawer() func(n int) int {
	word := uint64(1)
	return func(n int) int {
		word = word*6364136223846793005 + 1442695040888963407
		return int(word >> 33 % uint64(n))
	}
}

// texts are pairs of pieces, and longer ones that are drawn, of which many are read without an error.
func texts() []string {
	l := pieces()
	right := slices.DeleteFunc(pieces(), func(s string) bool {
		_, code, _ := all(s)
		return code != api.OK
	})
	for _, a := range pieces() {
		for _, b := range pieces() {
			l = append(l, a+b, a+" "+b)
		}
	}
	draw := drawer()
	for i := range 2000 {
		s := ""
		for range draw(12) {
			s += right[draw(len(right))]
			if i%2 == 0 {
				s += " "
			}
		}
		l = append(l, s)
	}
	return l
}

// P13.1.
func TestNext(t *testing.T) {
	for _, x := range []struct {
		s    string
		at   int
		want api.Token
	}{
		{"", 0, api.Token{}},
		{"a", 1, api.Token{At: 1, End: 1}},
		{" \t\n\r", 0, api.Token{At: 4, End: 4}},
		{"a \t\n\r", 2, api.Token{At: 5, End: 5}},
		{"a <= -1", 0, api.Token{Kind: api.TkWord, At: 0, End: 1, Text: "a"}},
		{"a <= -1", 1, api.Token{Kind: api.TkSign, At: 2, End: 4, Text: "<="}},
		{"a <= -1", 4, api.Token{Kind: api.TkInt, At: 5, End: 7, Int: -1}},
		{"a <= -1", 6, api.Token{Kind: api.TkInt, At: 6, End: 7, Int: 1}},
		{"a <= -1", 7, api.Token{At: 7, End: 7}},
		{"abc", 1, api.Token{Kind: api.TkWord, At: 1, End: 3, Text: "bc"}},
		{"_a9Z$", 0, api.Token{Kind: api.TkWord, At: 0, End: 4, Text: "_a9Z"}},
		{"a-b", 0, api.Token{Kind: api.TkWord, At: 0, End: 1, Text: "a"}},
		{"a\xc3\xa9", 0, api.Token{Kind: api.TkWord, At: 0, End: 1, Text: "a"}},
		{"0", 0, api.Token{Kind: api.TkInt, At: 0, End: 1}},
		{"12ab", 0, api.Token{Kind: api.TkInt, At: 0, End: 2, Int: 12}},
		{"12-3", 0, api.Token{Kind: api.TkInt, At: 0, End: 2, Int: 12}},
		{"12_3", 0, api.Token{Kind: api.TkInt, At: 0, End: 2, Int: 12}},
		{"1.5", 0, api.Token{Kind: api.TkInt, At: 0, End: 1, Int: 1}},
		{"007", 2, api.Token{Kind: api.TkInt, At: 2, End: 3, Int: 7}},
		{"9223372036854775807", 0, api.Token{Kind: api.TkInt, At: 0, End: 19, Int: math.MaxInt64}},
		{" -9223372036854775808 ", 0, api.Token{Kind: api.TkInt, At: 1, End: 21, Int: math.MinInt64}},
		{`""`, 0, api.Token{Kind: api.TkText, At: 0, End: 2}},
		{`""`, 2, api.Token{At: 2, End: 2}},
		{` "a\n\x41\/"b`, 0, api.Token{Kind: api.TkText, At: 1, End: 12, Text: "a\nA/"}},
		{`"a" "b"`, 2, api.Token{Kind: api.TkText, At: 2, End: 5, Text: " "}},
		{"\"\xff\" ", 0, api.Token{Kind: api.TkText, At: 0, End: 3, Text: "\xff"}},
		{"...", 0, api.Token{Kind: api.TkSign, At: 0, End: 2, Text: ".."}},
		{"...", 1, api.Token{Kind: api.TkSign, At: 1, End: 3, Text: ".."}},
		{"...", 2, api.Token{Kind: api.TkSign, At: 2, End: 3, Text: "."}},
		{". .", 0, api.Token{Kind: api.TkSign, At: 0, End: 1, Text: "."}},
		{"!==", 0, api.Token{Kind: api.TkSign, At: 0, End: 2, Text: "!="}},
		{"<>=", 0, api.Token{Kind: api.TkSign, At: 0, End: 1, Text: "<"}},
		{"<=>", 0, api.Token{Kind: api.TkSign, At: 0, End: 2, Text: "<="}},
		{"\n||&&", 0, api.Token{Kind: api.TkSign, At: 1, End: 3, Text: "||"}},
		{"? (", 1, api.Token{Kind: api.TkSign, At: 2, End: 3, Text: "("}},
	} {
		if g, err := Next(x.s, x.at); g != x.want || err != nil {
			t.Errorf("Next(%q, %d): %+v, %v", x.s, x.at, g, err)
		}
		checkNext(t, x.s, x.at)
	}
}

// P13.1: errors, each of which stands alone.
func TestNextRefuses(t *testing.T) {
	for _, x := range []struct {
		s     string
		at    int
		code  api.Errno
		place int
	}{
		{"", -1, api.ErrArg, 0},
		{"", 1, api.ErrArg, 0},
		{"a b", -1, api.ErrArg, 0},
		{"a b", 4, api.ErrArg, 0},
		{"#", 2, api.ErrArg, 0},
		{"#", math.MinInt, api.ErrArg, 0},
		{"  ", math.MaxInt, api.ErrArg, 0},
		{"-", 0, api.ErrForm, 0},
		{"  -", 0, api.ErrForm, 2},
		{"  -", 1, api.ErrForm, 2},
		{"- 1", 0, api.ErrForm, 0},
		{"--1", 0, api.ErrForm, 0},
		{"-a", 0, api.ErrForm, 0},
		{" -0", 0, api.ErrForm, 1},
		{" 00", 0, api.ErrForm, 1},
		{"-01", 0, api.ErrForm, 0},
		{"1 007", 1, api.ErrForm, 2},
		{" 9223372036854775808", 0, api.ErrRange, 1},
		{" -9223372036854775809a", 0, api.ErrRange, 1},
		{"09223372036854775808", 0, api.ErrForm, 0},
		{"a =", 1, api.ErrForm, 2},
		{"a <= -1", 3, api.ErrForm, 3},
		{"= =", 0, api.ErrForm, 0},
		{"&|", 0, api.ErrForm, 0},
		{"|&", 0, api.ErrForm, 0},
		{" /", 0, api.ErrForm, 1},
		{"\x0b", 0, api.ErrForm, 0},
		{" \x0c", 0, api.ErrForm, 1},
		{" \x00", 0, api.ErrForm, 1},
		{"a\xc3\xa9", 1, api.ErrForm, 1},
		{"'a'", 0, api.ErrForm, 0},
		{"+1", 0, api.ErrForm, 0},
		{`"`, 0, api.ErrShort, 1},
		{` "ab`, 0, api.ErrShort, 4},
		{`a  "\x4`, 1, api.ErrShort, 7},
		{`  "a\`, 0, api.ErrShort, 5},
		{`  "a\q"`, 0, api.ErrForm, 5},
		{`  "a\q"`, 5, api.OK, 0},
		{" \"a\nb\"", 0, api.ErrForm, 3},
		{`"\xg0"`, 0, api.ErrForm, 3},
		{`"a"`, 2, api.ErrShort, 3},
	} {
		g, err := Next(x.s, x.at)
		checkError(t, "Next of "+strconv.Quote(x.s), err, x.code, x.place)
		if x.code != api.OK && g != (api.Token{}) {
			t.Errorf("Next(%q, %d): %+v beside an error", x.s, x.at, g)
		}
		checkNext(t, x.s, x.at)
	}
}

// P13.1: each byte at a token's beginning, within each token, and behind it.
func TestNextOfEachByte(t *testing.T) {
	for c := range 256 {
		b := string([]byte{byte(c)})
		for _, p := range append(pieces(), ".", "a", "-", "1", `"a`, `"\x4`) {
			for _, s := range []string{b + p, p + b, " " + p + b + p, b + " " + p} {
				checkNext(t, s, 0)
			}
		}
		for d := range 256 {
			checkNext(t, b+string([]byte{byte(d)}), 0)
		}
	}
}

// P13.1, P13.2: all short texts of some bytes, at each place.
func TestAllShortTexts(t *testing.T) {
	for _, some := range []struct {
		letters string
		most    int
	}{
		{"\" \n-019aZ_.=!<>&|\\x*#\x00\xff", 3},
		{". =!<>&|", 5},
		{"-01a \"\\", 5},
	} {
		l := []string{""}
		for range some.most {
			var longer []string
			for _, s := range l {
				for i := range len(some.letters) {
					longer = append(longer, s+some.letters[i:i+1])
				}
			}
			for _, s := range longer {
				checkAll(t, s)
			}
			l = longer
		}
	}
}

// P13.2.
func TestAll(t *testing.T) {
	for s, kinds := range map[string][]int{
		"":          {},
		" \t\r\n":   {},
		"a <= -1":   {api.TkWord, api.TkSign, api.TkInt},
		"a<=-1":     {api.TkWord, api.TkSign, api.TkInt},
		"12ab34":    {api.TkInt, api.TkWord},
		"1-2":       {api.TkInt, api.TkInt},
		`a"b"1"c"_`: {api.TkWord, api.TkText, api.TkInt, api.TkText, api.TkWord},
		"....*":     {api.TkSign, api.TkSign, api.TkSign},
		"$.a[?(@)]": {api.TkSign, api.TkSign, api.TkWord, api.TkSign, api.TkSign, api.TkSign, api.TkSign, api.TkSign, api.TkSign},
	} {
		l, err := All(s)
		if err != nil || len(l) != len(kinds) {
			t.Fatalf("All(%q): %+v, %v", s, l, err)
		}
		for i, x := range l {
			if x.Kind != kinds[i] {
				t.Errorf("All(%q): the token %d is %+v", s, i, x)
			}
		}
	}
	for _, x := range []struct {
		s     string
		code  api.Errno
		place int
	}{
		{"#", api.ErrForm, 0},
		{"a b #", api.ErrForm, 4},
		{"a b -", api.ErrForm, 4},
		{"a 12 012 #", api.ErrForm, 5},
		{"a 99999999999999999999 #", api.ErrRange, 2},
		{`a "b" "c`, api.ErrShort, 8},
		{`a "b" "c\d" "`, api.ErrForm, 9},
		{"a\n\"b\nc\"", api.ErrForm, 4},
		{"a = b", api.ErrForm, 2},
	} {
		l, err := All(x.s)
		checkError(t, "All of "+strconv.Quote(x.s), err, x.code, x.place)
		if len(l) != 0 {
			t.Errorf("All(%q): %+v beside an error", x.s, l)
		}
	}
	for _, s := range texts() {
		checkAll(t, s)
	}
}

// P13.2: at most MaxText bytes are read by All, whatever they are; Next is not held to this.
func TestAllOfMany(t *testing.T) {
	const most = 1 << 20
	for _, x := range []struct {
		s     string
		n     int // tokens
		code  api.Errno
		place int
	}{
		{strings.Repeat(" ", most), 0, api.OK, 0},
		{strings.Repeat("(", most), most, api.OK, 0},
		{strings.Repeat(".", most), most / 2, api.OK, 0},
		{strings.Repeat("a", most), 1, api.OK, 0},
		{strings.Repeat("a ", most/2), most / 2, api.OK, 0},
		{strings.Repeat("1,", most/2), most, api.OK, 0},
		{strings.Repeat(`""`, most/2), most / 2, api.OK, 0},
		{`"` + strings.Repeat("a", most-2) + `"`, 1, api.OK, 0},
		{`"` + strings.Repeat("a", most-1), 0, api.ErrShort, most},
		{strings.Repeat("1", most), 0, api.ErrRange, 0},
		{strings.Repeat("0", most), 0, api.ErrForm, 0},
		{strings.Repeat("-", most), 0, api.ErrForm, 0},
		{strings.Repeat("(", most-1) + "#", 0, api.ErrForm, most - 1},
		{strings.Repeat(" ", most+1), 0, api.ErrMany, 0},
		{strings.Repeat("(", most+1), 0, api.ErrMany, 0},
		{strings.Repeat("#", most+1), 0, api.ErrMany, 0},
		{"#" + strings.Repeat(" ", most), 0, api.ErrMany, 0},
		{`"` + strings.Repeat("a", 2*most) + `"`, 0, api.ErrMany, 0},
	} {
		l, err := All(x.s)
		checkError(t, "All of "+strconv.Quote(x.s[:4]), err, x.code, x.place)
		if len(l) != x.n {
			t.Errorf("All of %q: %d tokens; want %d", x.s[:4], len(l), x.n)
		}
		if x.code == api.ErrMany {
			checkLong(t, x.s)
		}
	}
}

// checkLong asks Next of a text that is too long for All at its beginning and at its end.
func checkLong(t *testing.T, s string) {
	t.Helper()
	for _, at := range []int{0, len(s) - 1, len(s), len(s) + 1} {
		want, code, place := next(s, at)
		x, err := Next(s, at)
		checkError(t, "Next of "+strconv.Quote(s[:4]), err, code, place)
		if x != want {
			t.Errorf("Next of %q at %d: a token of Kind %d from %d to %d", s[:4], at, x.Kind, x.At, x.End)
		}
	}
}

// P13.1: blanks are these four alone.
func TestBlank(t *testing.T) {
	for c := range 256 {
		want := c == 32 || c == 9 || c == 10 || c == 13
		if Blank(byte(c)) != want {
			t.Errorf("Blank(%d): %v", c, !want)
		}
	}
}

// P13.1, R3: signs, in order, in memory of their own.
func TestSigns(t *testing.T) {
	want := strings.Fields(".. == != <= >= && || [ ] { } < > ( ) , : . * ? ! $ @")
	for range 3 {
		l := Signs()
		if !slices.Equal(l, want) {
			t.Fatalf("Signs: %q", l)
		}
		clear(l)
		_ = append(l[:3], "#")
	}
	for _, s := range want {
		x, err := Next(s, 0)
		if err != nil || x != (api.Token{Kind: api.TkSign, End: len(s), Text: s}) {
			t.Errorf("Next(%q, 0): %+v, %v", s, x, err)
		}
	}
}

// P13.2.
func TestPrint(t *testing.T) {
	sign, end := api.Token{Kind: api.TkSign, Text: "("}, api.Token{}
	for _, x := range []struct {
		l []api.Token
		s string
	}{
		{nil, ""},
		{[]api.Token{}, ""},
		{[]api.Token{sign}, "("},
		{[]api.Token{sign, sign}, "( ("},
		{[]api.Token{{Kind: api.TkWord, Text: "a"}, {Kind: api.TkInt, Int: -7}, {Kind: api.TkText, Text: "a\"\n\xff"}}, `a -7 "a\"\n\xff"`},
		{[]api.Token{{Kind: api.TkInt, Int: math.MinInt64}, {Kind: api.TkInt}}, "-9223372036854775808 0"},
		{[]api.Token{{Kind: api.TkText}}, `""`},
		{[]api.Token{end}, ""},
		{[]api.Token{end, end}, " "},
		{[]api.Token{end, sign}, " ("},
		{[]api.Token{sign, end}, "( "},
		{[]api.Token{sign, end, sign}, "(  ("},
		{[]api.Token{sign, {Kind: 5, Int: 3, Text: "x"}, {Kind: -1, Int: 3, Text: "x"}, {Kind: math.MaxInt, Int: 3, Text: "x"}, {Kind: math.MinInt, Text: "x"}, sign}, "(     ("},
		{[]api.Token{{Kind: api.TkEnd, Int: 3, Text: "x"}, sign}, " ("},
		{[]api.Token{{Kind: api.TkWord, Int: 3, Text: ""}, {Kind: api.TkSign, Int: 3, Text: ""}, sign}, "  ("},
		{[]api.Token{{Kind: api.TkWord, Text: "9 \"\n"}, {Kind: api.TkSign, Text: "# \x00"}}, "9 \"\n # \x00"},
		{[]api.Token{{Kind: api.TkInt, Int: 3, Text: "x"}, {Kind: api.TkText, Int: 3, Text: "y"}}, `3 "y"`},
		{[]api.Token{{Kind: api.TkWord, At: -5, End: 70, Text: "b"}, {Kind: api.TkWord, At: 9, End: 2, Text: "a"}}, "b a"},
	} {
		if s := Print(x.l); s != x.s {
			t.Errorf("Print(%+v): %q; want %q", x.l, s, x.s)
		}
	}
	draw := drawer()
	for range 2000 {
		var l []api.Token
		for range draw(6) {
			l = append(l, api.Token{Kind: draw(8) - 1, At: draw(9), End: draw(9), Int: int64(draw(99) - 50), Text: pieces()[draw(len(pieces()))]})
		}
		kept := slices.Clone(l)
		if s := Print(l); s != print(l) {
			t.Errorf("Print(%+v): %q; want %q", l, s, print(l))
		}
		if !slices.Equal(l, kept) {
			t.Errorf("Print changed its list: %+v; it was %+v", l, kept)
		}
	}
}

// P13.3: tokens follow one another, with nothing but blanks ahead, between and behind; each of them reads the same alone.
func TestTokensFollowOneAnother(t *testing.T) {
	for _, s := range texts() {
		l, err := All(s)
		if err != nil {
			continue
		}
		at := 0
		for _, x := range append(l, api.Token{At: len(s), End: len(s)}) {
			if x.At < at || x.End < x.At || x.End > len(s) || strings.Trim(s[at:x.At], " \t\n\r") != "" {
				t.Fatalf("All(%q): %+v, of which %+v is out of place", s, l, x)
			}
			at = x.End
			alone, err := Next(s[x.At:x.End], 0)
			x.At, x.End = 0, x.End-x.At
			if err != nil || alone != x {
				t.Errorf("of %q: %+v alone is %+v, %v", s, x, alone, err)
			}
		}
	}
}

// bare is l without places.
func bare(l []api.Token) []api.Token {
	var list []api.Token
	for _, x := range l {
		list = append(list, api.Token{Kind: x.Kind, Int: x.Int, Text: x.Text})
	}
	return list
}

// P13.4.
func TestThereAndBack(t *testing.T) {
	read := 0
	for _, s := range texts() {
		l, err := All(s)
		if err != nil {
			continue
		}
		read++
		printed := Print(l)
		again, err := All(printed)
		if err != nil || !slices.Equal(bare(again), bare(l)) {
			t.Errorf("of %q there is printed %q, of which come %+v, %v", s, printed, again, err)
		}
		if Print(again) != printed {
			t.Errorf("of %q there is printed %q, and then %q", s, printed, Print(again))
		}
		end := -1
		for _, x := range again { // one blank between, and none elsewhere
			if x.At != end+1 {
				t.Errorf("of %q there is printed %q, where %+v is out of place", s, printed, x)
			}
			end = x.End
		}
		if max(end, 0) != len(printed) {
			t.Errorf("of %q there is printed %q, which goes on", s, printed)
		}
	}
	if read < 2000 {
		t.Errorf("only %d texts were read", read)
	}
}

// P1, R3, R4: the same is answered once more, whatever was done to what was answered.
func TestAnswersAreNew(t *testing.T) {
	const s = `$ [ "a\n" ] <= -12 && name`
	first, err := All(s)
	if err != nil || len(first) != 8 {
		t.Fatalf("All: %+v, %v", first, err)
	}
	want := slices.Clone(first)
	clear(first)
	_ = append(first[:2], api.Token{Kind: api.TkWord, Text: "b"})
	for range 3 {
		l, err := All(s)
		if err != nil || !slices.Equal(l, want) {
			t.Fatalf("All: %+v, %v", l, err)
		}
		if text := Print(l); text != s {
			t.Errorf("Print: %s", text)
		}
		clear(l)
	}
	one, _ := Next("a #", 1)
	_, err = Next("a #", 1)
	f, is := err.(*fault.Fault)
	if one != (api.Token{}) || !is || f == nil {
		t.Fatalf("Next: %+v, %v", one, err)
	}
	f.At, f.Under = 99, nil
	_, err = Next("a #", 1)
	checkError(t, "Next once more", err, api.ErrForm, 2)
}

// Bound: a token costs no more than its bytes, wherever it stands.
func TestNextReadsNoFurther(t *testing.T) {
	for _, piece := range []string{"a,", "1 ", `"b"`, "<=", ". "} {
		s := strings.Repeat(piece, 1<<18)
		for at := 0; at < len(s); {
			x, err := Next(s, at)
			if err != nil {
				t.Fatalf("Next of many %q at %d: %v", piece, at, err)
			}
			if x.End <= at {
				t.Fatalf("Next of many %q at %d: %+v", piece, at, x)
			}
			at = x.End
		}
	}
}

// Ways: signs stand in a table; what begins a token is asked by a switch whose cases fall through. Lex stands on no other packages of the project than its chapter says.
func TestWays(t *testing.T) {
	file, err := parser.ParseFile(token.NewFileSet(), "lex.go", nil, 0)
	if err != nil {
		t.Fatal(err)
	}
	table, falls := false, false
	for _, d := range file.Decls {
		switch d := d.(type) {
		case *ast.GenDecl:
			for _, s := range d.Specs {
				v, ok := s.(*ast.ValueSpec)
				table = table || ok && d.Tok == token.VAR && len(v.Values) == 1 && isTable(v.Values[0], len(Signs()))
			}
		case *ast.FuncDecl:
			ast.Inspect(d, func(n ast.Node) bool {
				b, ok := n.(*ast.BranchStmt)
				falls = falls || ok && b.Tok == token.FALLTHROUGH && d.Name.Name == "Next"
				return true
			})
		}
	}
	if !table || !falls {
		t.Errorf("signs in a table: %v; a case of Next that falls through: %v", table, falls)
	}
	for _, i := range file.Imports {
		if path, _ := strconv.Unquote(i.Path.Value); strings.HasPrefix(path, "placket/") && !slices.Contains([]string{"api", "fault", "num", "quote"}, path[len("placket/"):]) {
			t.Errorf("lex does not stand on %s", path)
		}
	}
}

// isTable tells whether x is a literal that has so many things.
func isTable(x ast.Expr, n int) bool {
	l, ok := x.(*ast.CompositeLit)
	return ok && len(l.Elts) == n
}
