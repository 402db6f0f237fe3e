package quote

import (
	"bytes"
	"encoding/hex"
	"fmt"
	"go/ast"
	"go/parser"
	"go/token"
	"regexp"
	"strconv"
	"strings"
	"testing"

	"placket/api"
)

// texts are edges, all texts of up to two bytes of some, and a row of longer ones of all bytes.
func texts() []string {
	l := []string{"", "a", "ab", "abc", "abd", "b", "\"", "\\", "/", "\\n", "\\x00", "a\nb", "a\tb\r", "\x00\x00", "\x7f", "\x80", "\xff\xff", "0", "9a", "null", "a b", "é", "日本", "\xed\xa0\x80", strings.Repeat("a", 300), strings.Repeat("a", 299) + "b", strings.Repeat("\xff", 300)}
	const some = "\x00\x01\t\n\r\x1f \"/0nx\\a~\x7f\x80\xff"
	for i := range len(some) {
		l = append(l, some[i:i+1])
		for k := range len(some) {
			l = append(l, some[i:i+1]+some[k:k+1])
		}
	}
	word := uint64(7)
	for n := range 60 {
		b := make([]byte, n)
		for i := range b {
			word = word*6364136223846793005 + 1442695040888963407
			b[i] = byte(word >> 56)
		}
		l = append(l, string(b))
	}
	return l
}

// P2.1.
func TestOrder(t *testing.T) {
	for _, x := range []struct {
		a, b string
		n    int
	}{
		{"", "", 0}, {"", "a", -1}, {"a", "", 1}, {"a", "a", 0}, {"a", "b", -1}, {"b", "a", 1},
		{"ab", "abc", -1}, {"abc", "ab", 1}, {"abd", "abca", 1}, {"Z", "a", -1},
		{"a\x00", "a", 1}, {"a", "a\x00", -1}, {"\x7f", "\x80", -1}, {"\x80", "\x7f", 1}, {"\xff", "\x00", 1},
		{"é", "z", 1}, {"a\xff", "b", -1}, {"ba", "aab", 1},
	} {
		if n := Order(x.a, x.b); n != x.n {
			t.Errorf("Order(%q, %q): %d", x.a, x.b, n)
		}
	}
	for _, a := range texts() {
		for _, b := range texts() {
			if n := Order(a, b); n != bytes.Compare([]byte(a), []byte(b)) {
				t.Errorf("Order(%q, %q): %d", a, b, n)
			}
		}
	}
}

// P2.1.
func TestCommon(t *testing.T) {
	for _, x := range []struct {
		a, b string
		n    int
	}{
		{"", "", 0}, {"", "a", 0}, {"a", "", 0}, {"a", "a", 1}, {"a", "b", 0}, {"abc", "abd", 2}, {"ab", "abc", 2},
		{"abc", "ab", 2}, {"abcabc", "abcxbc", 3}, {"\x00\xff", "\x00\xfe", 1}, {"é", "è", 1}, {"xa", "ya", 0},
	} {
		if n := Common(x.a, x.b); n != x.n {
			t.Errorf("Common(%q, %q): %d", x.a, x.b, n)
		}
	}
	for _, a := range texts() {
		for _, b := range texts() {
			n := Common(a, b)
			if n < 0 || n > len(a) || n > len(b) || !strings.HasPrefix(b, a[:n]) {
				t.Fatalf("Common(%q, %q): %d", a, b, n)
			}
			if n < len(a) && strings.HasPrefix(b, a[:n+1]) {
				t.Errorf("Common(%q, %q): %d, but more is the same", a, b, n)
			}
		}
	}
}

// quotedByte is how c stands in what Quote writes.
func quotedByte(c byte) string {
	switch c {
	case '"':
		return `\"`
	case '\\':
		return `\\`
	case 10:
		return `\n`
	case 9:
		return `\t`
	case 13:
		return `\r`
	}
	if c < 32 || c > 126 {
		return fmt.Sprintf(`\x%02x`, c)
	}
	return string(rune(c))
}

// P2.2.
func TestQuote(t *testing.T) {
	for s, q := range map[string]string{
		"":             `""`,
		"a":            `"a"`,
		"/":            `"/"`,
		"\n":           `"\n"`,
		"a\"b\\c":      `"a\"b\\c"`,
		"\t\r":         `"\t\r"`,
		"\x00\x1f\x7f": `"\x00\x1f\x7f"`,
		"\x80\xab\xff": `"\x80\xab\xff"`,
		"é":            `"\xc3\xa9"`,
		" ~":           `" ~"`,
		"\\n":          `"\\n"`,
		"\b\f\v\a\x1b": `"\x08\x0c\x0b\x07\x1b"`,
	} {
		if g := Quote(s); g != q {
			t.Errorf("Quote(%q): %s", s, g)
		}
	}
	for c := range 256 {
		s := string([]byte{byte(c)})
		if q := Quote(s); q != `"`+quotedByte(byte(c))+`"` {
			t.Errorf("Quote(%q): %s", s, q)
		}
	}
	for _, s := range texts() {
		want := `"`
		for i := range len(s) {
			want += quotedByte(s[i])
		}
		if q := Quote(s); q != want+`"` {
			t.Errorf("Quote(%q): %s", s, q)
		}
	}
}

// Of the forms of quotes; bytes stand in them as runes.
const inQuotes = `(?:[^\x00-\x1f"\\]|\\["\\/ntr]|\\x[0-9a-fA-F]{2})*`

var (
	wholeForm  = regexp.MustCompile(`^"` + inQuotes + `"`)
	partForm   = regexp.MustCompile(`^(?:"` + inQuotes + `(?:\\(?:x[0-9a-fA-F]?)?)?)?`)
	escapeForm = regexp.MustCompile(`\\(?:x..|.)`)
)

// runes is s with each byte as a rune of its own.
func runes(s string) string {
	var b strings.Builder
	for i := range len(s) {
		b.WriteRune(rune(s[i]))
	}
	return b.String()
}

// unrunes is the text of which s is runes.
func unrunes(s string) string {
	var b []byte
	for _, r := range s {
		b = append(b, byte(r))
	}
	return string(b)
}

// meant is what an escape means.
func meant(s string) string {
	switch s[1] {
	case 'n':
		return "\n"
	case 't':
		return "\t"
	case 'r':
		return "\r"
	case 'x':
		n, _ := strconv.ParseUint(s[2:], 16, 8)
		return string(rune(n))
	}
	return s[1:]
}

// unquoted is what Unquote must tell of s.
func unquoted(s string) (string, int, api.Errno) {
	wide := runes(s)
	if q := wholeForm.FindString(wide); q != "" {
		return unrunes(escapeForm.ReplaceAllStringFunc(q[1:len(q)-1], meant)), len(unrunes(q)), api.OK
	}
	at := len(unrunes(partForm.FindString(wide)))
	if at == len(s) {
		return "", at, api.ErrShort
	}
	return "", at, api.ErrForm
}

func checkUnquote(t *testing.T, s string) {
	t.Helper()
	text, n, code := unquoted(s)
	if g, m, e := Unquote(s); g != text || m != n || e != code {
		t.Errorf("Unquote(%q): %q, %d, %v; want %q, %d, %v", s, g, m, e, text, n, code)
	}
}

// P2.3.
func TestUnquoteAtTheEdges(t *testing.T) {
	for _, x := range []struct {
		s, text string
		n       int
		e       api.Errno
	}{
		{`""`, "", 2, api.OK},
		{`"a"`, "a", 3, api.OK},
		{`"a"b"`, "a", 3, api.OK},
		{`"" `, "", 2, api.OK},
		{`"\"\\\/\n\t\r"`, "\"\\/\n\t\r", 14, api.OK},
		{`"\x00\xff\xAb\xaB\xFA"`, "\x00\xff\xab\xab\xfa", 22, api.OK},
		{"\"\x7f\x80\xff é/\"", "\x7f\x80\xff é/", 9, api.OK},
		{`"\x4142"`, "A42", 8, api.OK},
		{``, "", 0, api.ErrShort},
		{`"`, "", 1, api.ErrShort},
		{`"ab`, "", 3, api.ErrShort},
		{`"ab\`, "", 4, api.ErrShort},
		{`"ab\x`, "", 5, api.ErrShort},
		{`"ab\x1`, "", 6, api.ErrShort},
		{`"ab\x12`, "", 7, api.ErrShort},
		{`"ab\"`, "", 5, api.ErrShort},
		{`a"`, "", 0, api.ErrForm},
		{` ""`, "", 0, api.ErrForm},
		{`\""`, "", 0, api.ErrForm},
		{`'a'`, "", 0, api.ErrForm},
		{"\"a\nb\"", "", 2, api.ErrForm},
		{"\"\x1f\"", "", 1, api.ErrForm},
		{"\"\x00", "", 1, api.ErrForm},
		{"\"a\x00\\q", "", 2, api.ErrForm},
		{`"\q`, "", 2, api.ErrForm},
		{`"\b"`, "", 2, api.ErrForm},
		{`"\f"`, "", 2, api.ErrForm},
		{`"\0"`, "", 2, api.ErrForm},
		{`"\u0041"`, "", 2, api.ErrForm},
		{`"\X41"`, "", 2, api.ErrForm},
		{`"\'"`, "", 2, api.ErrForm},
		{`"\N"`, "", 2, api.ErrForm},
		{"\"\\\n\"", "", 2, api.ErrForm},
		{`"\x"`, "", 3, api.ErrForm},
		{`"\xg0"`, "", 3, api.ErrForm},
		{`"\x0g"`, "", 4, api.ErrForm},
		{`"\x0"`, "", 4, api.ErrForm},
		{`"\xG`, "", 3, api.ErrForm},
		{`"\x-1"`, "", 3, api.ErrForm},
		{`"\n\q"`, "", 4, api.ErrForm},
		{`"\x41\q"`, "", 6, api.ErrForm},
	} {
		if g, n, e := Unquote(x.s); g != x.text || n != x.n || e != x.e {
			t.Errorf("Unquote(%q): %q, %d, %v", x.s, g, n, e)
		}
		checkUnquote(t, x.s)
	}
}

// P2.3, R1: each byte wherever one may stand.
func TestUnquoteOfEachByte(t *testing.T) {
	for c := range 256 {
		b := string([]byte{byte(c)})
		for _, s := range []string{b, `"` + b, `"a` + b, `"\` + b, `"\x` + b, `"\x4` + b, `"\x41` + b, `"\n` + b, `"a"` + b} {
			for _, behind := range []string{"", `"`, `1"`, `41"`, `\`, "\x01"} {
				checkUnquote(t, s+behind)
			}
		}
	}
}

// P2.3.
func TestUnquoteOfAllShortTexts(t *testing.T) {
	const letters = "\"\\xnAf/\x1f\x80"
	l := []string{"", `"`}
	for range 5 {
		var longer []string
		for _, s := range l {
			checkUnquote(t, s)
			for i := range len(letters) {
				longer = append(longer, s+letters[i:i+1])
			}
		}
		l = longer
	}
}

// P2.3.
func TestCanon(t *testing.T) {
	for s, is := range map[string]bool{
		`""`: true, `"a"`: true, `"\n\t\r\"\\"`: true, `"\x00\x1f\x7f\x80\xff"`: true, `"/"`: true, `"\xc3\xa9"`: true,
		``: false, `"`: false, `a`: false, `"a" `: false, ` "a"`: false, `"a""`: false, `"a"b`: false, `"\/"`: false,
		`"\x41"`: false, `"\x0a"`: false, `"\x09"`: false, `"\x0d"`: false, `"\x22"`: false, `"\x5c"`: false, `"\xFF"`: false, `"\xfF"`: false, `"\xFf"`: false, `"\x20"`: false, `"\x7e"`: false,
		"\"\x7f\"": false, "\"\x80\"": false, "\"é\"": false, "\"\n\"": false, `"\q"`: false, `"\"`: false,
	} {
		if Canon(s) != is {
			t.Errorf("Canon(%q): %v", s, !is)
		}
	}
	for c := range 256 {
		b := string([]byte{byte(c)})
		for _, q := range []string{b, `\` + b, fmt.Sprintf(`\x%02x`, c), fmt.Sprintf(`\x%02X`, c)} {
			want := false
			for k := range 256 {
				want = want || q == quotedByte(byte(k))
			}
			if Canon(`"`+q+`"`) != want {
				t.Errorf("Canon of %q in quotes: %v", q, !want)
			}
		}
	}
	for _, s := range texts() {
		q := Quote(s)
		if !Canon(q) || Canon(q+" ") || Canon(q[1:]) || Canon(q[:len(q)-1]) {
			t.Errorf("Canon of what is Quote of %q, or nearly", s)
		}
	}
}

// P2.4.
func TestName(t *testing.T) {
	form := regexp.MustCompile(`^[A-Za-z_][A-Za-z0-9_]*$`)
	for s, is := range map[string]bool{
		"a": true, "_": true, "Z": true, "a0": true, "_9": true, "aZ_09": true, "null": true, "__": true, "z": true, "A": true,
		"": false, "0": false, "9a": false, "a-b": false, "a b": false, " a": false, "a ": false, "a\n": false, "é": false, "a.b": false, "a\x00": false, "a\xff": false,
	} {
		if Name(s) != is {
			t.Errorf("Name(%q): %v", s, !is)
		}
	}
	for c := range 256 {
		b := string([]byte{byte(c)})
		for _, s := range []string{b, "a" + b, "_" + b + "a", b + "a", "9" + b} {
			if is := form.MatchString(s) && !strings.HasSuffix(s, "\n"); Name(s) != is {
				t.Errorf("Name(%q): %v", s, !is)
			}
		}
	}
}

// P2.5.
func TestHex(t *testing.T) {
	for s, h := range map[string]string{"": "", "\x00": "00", "\xff": "ff", "A": "41", "\x0a\xb0\x9f": "0ab09f", "az": "617a"} {
		if g := Hex(s); g != h {
			t.Errorf("Hex(%q): %s", s, g)
		}
	}
	for _, s := range texts() {
		if g := Hex(s); g != hex.EncodeToString([]byte(s)) {
			t.Errorf("Hex(%q): %s", s, g)
		}
	}
}

// P2.5.
func TestUnhex(t *testing.T) {
	for _, s := range []string{"0", "f", "000", "0g", "g0", "FF", "aF", "Fa", " 0", "0 ", "0x", "x0", "00 ", "\x0000", "0/", "0:", "0`", ":0", "4142f", "41gg", "414G", "G141", "é"} {
		if g, e := Unhex(s); g != "" || e != api.ErrForm {
			t.Errorf("Unhex(%q): %q, %v", s, g, e)
		}
	}
	if g, e := Unhex(""); g != "" || e != api.OK {
		t.Errorf("Unhex of nothing: %q, %v", g, e)
	}
	for a := range 256 {
		for b := range 256 {
			s := string([]byte{byte(a), byte(b)})
			want, err := hex.DecodeString(s)
			code := api.OK
			if err != nil || strings.ToLower(s) != s {
				want, code = nil, api.ErrForm
			}
			if g, e := Unhex(s); g != string(want) || e != code {
				t.Errorf("Unhex(%q): %q, %v", s, g, e)
			}
			g, e := Unhex("61" + s + "62")
			if code == api.OK && g != "a"+string(want)+"b" || code != api.OK && g != "" || e != code {
				t.Errorf("Unhex(61%q62): %q, %v", s, g, e)
			}
		}
	}
}

// P2.6.
func TestThereAndBack(t *testing.T) {
	quoted := map[string]string{}
	for _, s := range texts() {
		q := Quote(s)
		for _, behind := range []string{"", "\"", "\\", "x", "\x00", q, " \xff"} {
			if g, n, e := Unquote(q + behind); g != s || n != len(q) || e != api.OK {
				t.Errorf("Unquote of Quote of %q, and %q: %q, %d, %v", s, behind, g, n, e)
			}
		}
		if other, is := quoted[q]; is && other != s {
			t.Errorf("%q and %q are quoted alike", s, other)
		}
		quoted[q] = s
		if g, e := Unhex(Hex(s)); g != s || e != api.OK {
			t.Errorf("Unhex of Hex of %q: %q, %v", s, g, e)
		}
	}
}

// P2.7.
func TestOrderIsOne(t *testing.T) {
	l := texts()
	if len(l) > 120 {
		l = append(l[:60:60], l[len(l)-60:]...)
	}
	for _, a := range l {
		for _, b := range l {
			if (a == b) != (Order(a, b) == 0) || Order(a, b) != -Order(b, a) {
				t.Errorf("Order of %q and %q: %d, %d", a, b, Order(a, b), Order(b, a))
			}
			for _, c := range l {
				if Order(a, b) < 0 && Order(b, c) < 0 && Order(a, c) >= 0 {
					t.Errorf("%q, %q, %q are ahead, but the first one isn't", a, b, c)
				}
			}
		}
	}
}

// P1, R2, R4: all short texts of all bytes are answered, and the same once more; with an error there is no text.
func TestNothingBesideAnError(t *testing.T) {
	type answers struct {
		text, hexed string
		n           int
		e, hexE     api.Errno
		canon, name bool
	}
	ask := func(s string) answers {
		var x answers
		x.text, x.n, x.e = Unquote(s)
		x.hexed, x.hexE = Unhex(s)
		x.canon, x.name = Canon(s), Name(s)
		return x
	}
	var l []string
	for _, s := range texts() {
		l = append(l, s, `"`+s, `"`+s+`"`, `"\`+s, Quote(s)+s, Hex(s)+s)
	}
	first := map[string]answers{}
	for _, s := range l {
		x := ask(s)
		first[s] = x
		if x.e != api.OK && x.text != "" || x.hexE != api.OK && x.hexed != "" {
			t.Errorf("of %q there is %q, %q beside %v, %v", s, x.text, x.hexed, x.e, x.hexE)
		}
		if x.e != api.OK && x.e != api.ErrForm && x.e != api.ErrShort || x.hexE != api.OK && x.hexE != api.ErrForm {
			t.Errorf("of %q: %v, %v", s, x.e, x.hexE)
		}
		if x.n < 0 || x.n > len(s) || x.e == api.ErrShort && x.n != len(s) || x.e == api.ErrForm && x.n == len(s) {
			t.Errorf("of %q: %v at %d", s, x.e, x.n)
		}
	}
	for _, s := range l {
		if ask(s) != first[s] {
			t.Errorf("other answers of %q", s)
		}
	}
}

// Bound: what lies behind the second mark costs nothing.
func TestUnquoteReadsNoFurther(t *testing.T) {
	long := strings.Repeat(`"a"`, 1<<18)
	for at := 0; at < len(long); {
		s, n, e := Unquote(long[at:])
		if s != "a" || n != 3 || e != api.OK {
			t.Fatalf("Unquote at %d: %q, %d, %v", at, s, n, e)
		}
		at += n
	}
}

// Ways: escapes are looked up in a table; quotes are gone through by a loop left by its label.
func TestWays(t *testing.T) {
	file, err := parser.ParseFile(token.NewFileSet(), "quote.go", nil, 0)
	if err != nil {
		t.Fatal(err)
	}
	table, left := false, false
	for _, d := range file.Decls {
		if g, ok := d.(*ast.GenDecl); ok && g.Tok == token.VAR {
			for _, s := range g.Specs {
				for _, v := range s.(*ast.ValueSpec).Values {
					_, is := v.(*ast.CompositeLit)
					table = table || is
				}
			}
		}
		if f, ok := d.(*ast.FuncDecl); ok && f.Name.Name == "Unquote" {
			left = leavesByLabel(f)
		}
	}
	if !table {
		t.Error("no table of escapes")
	}
	if !left {
		t.Error("no loop of Unquote is left by its label")
	}
}

// leavesByLabel tells whether a loop in f has a label by which a break leaves it.
func leavesByLabel(f *ast.FuncDecl) bool {
	found := false
	ast.Inspect(f, func(n ast.Node) bool {
		l, ok := n.(*ast.LabeledStmt)
		if !ok {
			return true
		}
		loop, ok := l.Stmt.(*ast.ForStmt)
		if !ok {
			return true
		}
		ast.Inspect(loop, func(n ast.Node) bool {
			b, ok := n.(*ast.BranchStmt)
			found = found || ok && b.Tok == token.BREAK && b.Label != nil && b.Label.Name == l.Label.Name
			return true
		})
		return true
	})
	return found
}
