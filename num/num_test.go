package num

import (
	"go/ast"
	"go/parser"
	"go/token"
	"math"
	"math/big"
	"strings"
	"testing"

	"placket/api"
)

const (
	least = math.MinInt64
	most  = math.MaxInt64
)

// numbers are edges, and a row of others of all sizes.
func numbers() []int64 {
	l := []int64{0, 1, 2, 3, 7, 9, 10, 11, 40, 99, 100, 255, 256, 1<<31 - 1, 1 << 31, 1<<32 - 1, 1 << 32, 3037000499, 3037000500, 1<<62 - 1, 1 << 62, 1<<62 + 1, most / 10, most/10 + 1, most - 1, most}
	word := uint64(1)
	for i := range 60 {
		word = word*6364136223846793005 + 1442695040888963407
		l = append(l, int64(word>>(1+i)))
	}
	for _, n := range l {
		l = append(l, -n)
	}
	return append(l, least, least+1, least+2, least/10, least/10-1)
}

func forPairs(f func(a, b int64)) {
	l := numbers()
	for _, a := range l {
		for _, b := range l {
			f(a, b)
		}
	}
	for a := int64(-12); a <= 12; a++ {
		for b := int64(-12); b <= 12; b++ {
			f(a, b)
		}
	}
}

// checkWide holds what a call answers against the true number.
func checkWide(t *testing.T, call string, a, b int64, wide *big.Int, n int64, e api.Errno) {
	t.Helper()
	want, code := int64(0), api.ErrRange
	if wide.IsInt64() {
		want, code = wide.Int64(), api.OK
	}
	if n != want || e != code {
		t.Errorf("%s(%d, %d): %d, %v; want %d, %v", call, a, b, n, e, want, code)
	}
}

// P1.1, R7.
func TestAddSubMulAreTrueOrRefused(t *testing.T) {
	forPairs(func(a, b int64) {
		x, y := big.NewInt(a), big.NewInt(b)
		n, e := Add(a, b)
		checkWide(t, "Add", a, b, new(big.Int).Add(x, y), n, e)
		n, e = Sub(a, b)
		checkWide(t, "Sub", a, b, new(big.Int).Sub(x, y), n, e)
		n, e = Mul(a, b)
		checkWide(t, "Mul", a, b, new(big.Int).Mul(x, y), n, e)
	})
}

// P1.1.
func TestAddSubMulAtTheEdges(t *testing.T) {
	type call func(a, b int64) (int64, api.Errno)
	for _, x := range []struct {
		name string
		f    call
		a, b int64
		n    int64
		e    api.Errno
	}{
		{"Add", Add, 2, 3, 5, api.OK},
		{"Add", Add, most, 0, most, api.OK},
		{"Add", Add, most, 1, 0, api.ErrRange},
		{"Add", Add, least, -1, 0, api.ErrRange},
		{"Add", Add, least, least, 0, api.ErrRange},
		{"Add", Add, least, most, -1, api.OK},
		{"Sub", Sub, 2, 3, -1, api.OK},
		{"Sub", Sub, 0, least, 0, api.ErrRange},
		{"Sub", Sub, -1, least, most, api.OK},
		{"Sub", Sub, least, 1, 0, api.ErrRange},
		{"Sub", Sub, most, -1, 0, api.ErrRange},
		{"Sub", Sub, least, least, 0, api.OK},
		{"Mul", Mul, -6, 7, -42, api.OK},
		{"Mul", Mul, least, -1, 0, api.ErrRange},
		{"Mul", Mul, -1, least, 0, api.ErrRange},
		{"Mul", Mul, least, 1, least, api.OK},
		{"Mul", Mul, 1 << 62, -2, least, api.OK},
		{"Mul", Mul, 1 << 62, 2, 0, api.ErrRange},
		{"Mul", Mul, 1 << 32, 1 << 32, 0, api.ErrRange},
		{"Mul", Mul, 0, least, 0, api.OK},
		{"Mul", Mul, least, 0, 0, api.OK},
	} {
		if n, e := x.f(x.a, x.b); n != x.n || e != x.e {
			t.Errorf("%s(%d, %d): %d, %v", x.name, x.a, x.b, n, e)
		}
	}
}

// floor is the quotient rounded down: of all whole numbers the one whose product leaves something from 0 on up to b.
func floor(a, b int64) *big.Int {
	x, y := big.NewInt(a), big.NewInt(b)
	if b < 0 { // a quotient stays when both are turned
		x.Neg(x)
		y.Neg(y)
	}
	return x.Div(x, y) // of a number above 0 big's Div rounds down
}

// P1.2.
func TestDivIsRoundedDown(t *testing.T) {
	forPairs(func(a, b int64) {
		n, e := Div(a, b)
		if b == 0 {
			if n != 0 || e != api.ErrZero {
				t.Errorf("Div(%d, 0): %d, %v", a, n, e)
			}
			return
		}
		checkWide(t, "Div", a, b, floor(a, b), n, e)
	})
}

// P1.2.
func TestModIsWhatTheTrueQuotientLeaves(t *testing.T) {
	forPairs(func(a, b int64) {
		n, e := Mod(a, b)
		if b == 0 {
			if n != 0 || e != api.ErrZero {
				t.Errorf("Mod(%d, 0): %d, %v", a, n, e)
			}
			return
		}
		left := floor(a, b)
		left.Mul(left, big.NewInt(b))
		left.Sub(big.NewInt(a), left)
		checkWide(t, "Mod", a, b, left, n, e)
		if n != 0 && (n < 0) != (b < 0) {
			t.Errorf("Mod(%d, %d): %d is not of the divisor's sign", a, b, n)
		}
		if big.NewInt(n).CmpAbs(big.NewInt(b)) >= 0 {
			t.Errorf("Mod(%d, %d): %d is not nearer to 0", a, b, n)
		}
	})
}

// P1.2.
func TestDivAndModAtTheEdges(t *testing.T) {
	for _, x := range []struct {
		a, b     int64
		by, left int64
		div, mod api.Errno
	}{
		{7, 2, 3, 1, api.OK, api.OK},
		{-7, 2, -4, 1, api.OK, api.OK},
		{7, -2, -4, -1, api.OK, api.OK},
		{-7, -2, 3, -1, api.OK, api.OK},
		{6, -3, -2, 0, api.OK, api.OK},
		{0, -3, 0, 0, api.OK, api.OK},
		{0, 0, 0, 0, api.ErrZero, api.ErrZero},
		{least, 0, 0, 0, api.ErrZero, api.ErrZero},
		{least, -1, 0, 0, api.ErrRange, api.OK},
		{least, 1, least, 0, api.OK, api.OK},
		{most, -1, -most, 0, api.OK, api.OK},
		{1, least, -1, least + 1, api.OK, api.OK},
		{-1, most, -1, most - 1, api.OK, api.OK},
		{least, most, -2, most - 1, api.OK, api.OK},
		{most, least, -1, -1, api.OK, api.OK},
	} {
		if n, e := Div(x.a, x.b); n != x.by || e != x.div {
			t.Errorf("Div(%d, %d): %d, %v", x.a, x.b, n, e)
		}
		if n, e := Mod(x.a, x.b); n != x.left || e != x.mod {
			t.Errorf("Mod(%d, %d): %d, %v", x.a, x.b, n, e)
		}
	}
}

// P1.3.
func TestDigits(t *testing.T) {
	for n, s := range map[int64]string{0: "0", 7: "7", -7: "-7", 10: "10", -40: "-40", 1000: "1000", most: "9223372036854775807", least: "-9223372036854775808"} {
		if d := Digits(n); d != s {
			t.Errorf("Digits(%d): %q", n, d)
		}
	}
	for _, n := range numbers() {
		if d := Digits(n); d != big.NewInt(n).String() {
			t.Errorf("Digits(%d): %q", n, d)
		}
	}
}

// parsed is what Parse must tell of s.
func parsed(s string) (int64, api.Errno) {
	n, ok := new(big.Int).SetString(s, 10)
	switch {
	case !ok || n.String() != s:
		return 0, api.ErrForm
	case !n.IsInt64():
		return 0, api.ErrRange
	}
	return n.Int64(), api.OK
}

func checkParse(t *testing.T, s string) {
	t.Helper()
	want, code := parsed(s)
	if n, e := Parse(s); n != want || e != code {
		t.Errorf("Parse(%q): %d, %v; want %d, %v", s, n, e, want, code)
	}
}

// P1.3.
func TestParseOfAllShortTexts(t *testing.T) {
	const letters = "-+019_a /:\x00\xff"
	texts := []string{""}
	for range 4 {
		for _, s := range texts {
			checkParse(t, s)
		}
		var longer []string
		for _, s := range texts {
			for i := range len(letters) {
				longer = append(longer, s+letters[i:i+1])
			}
		}
		texts = longer
	}
}

// P1.3.
func TestParseAtTheEdges(t *testing.T) {
	noughts := strings.Repeat("0", 1<<16)
	for _, x := range []struct {
		s string
		n int64
		e api.Errno
	}{
		{"0", 0, api.OK},
		{"-1", -1, api.OK},
		{"9223372036854775807", most, api.OK},
		{"9223372036854775808", 0, api.ErrRange},
		{"-9223372036854775808", least, api.OK},
		{"-9223372036854775809", 0, api.ErrRange},
		{"9223372036854775810", 0, api.ErrRange},
		{"18446744073709551616", 0, api.ErrRange},
		{"18446744073709551617", 0, api.ErrRange},
		{"1" + noughts, 0, api.ErrRange},
		{"-1" + noughts, 0, api.ErrRange},
		{"1" + noughts + "x", 0, api.ErrForm},
		{"1" + noughts + "-", 0, api.ErrForm},
		{noughts, 0, api.ErrForm},
		{"", 0, api.ErrForm},
		{"-", 0, api.ErrForm},
		{"--1", 0, api.ErrForm},
		{"-0", 0, api.ErrForm},
		{"-01", 0, api.ErrForm},
		{"00", 0, api.ErrForm},
		{"01", 0, api.ErrForm},
		{"+1", 0, api.ErrForm},
		{" 1", 0, api.ErrForm},
		{"1 ", 0, api.ErrForm},
		{"1_0", 0, api.ErrForm},
		{"0x1", 0, api.ErrForm},
		{"1e2", 0, api.ErrForm},
		{"1.0", 0, api.ErrForm},
		{"\u0661", 0, api.ErrForm},
		{"09223372036854775808", 0, api.ErrForm},
		{"99999999999999999999a", 0, api.ErrForm},
	} {
		if n, e := Parse(x.s); n != x.n || e != x.e {
			t.Errorf("Parse(%.40q): %d, %v", x.s, n, e)
		}
	}
	for _, n := range numbers() {
		s := big.NewInt(n).String()
		for _, x := range []string{s, s + "0", "0" + s, "-" + s, s + "-", s + " "} {
			checkParse(t, x)
		}
	}
}

// P1.4.
func TestBytes(t *testing.T) {
	for n, s := range map[int64]string{
		0:                  "\x80\x00\x00\x00\x00\x00\x00\x00",
		1:                  "\x80\x00\x00\x00\x00\x00\x00\x01",
		-1:                 "\x7f\xff\xff\xff\xff\xff\xff\xff",
		0x0102030405060708: "\x81\x02\x03\x04\x05\x06\x07\x08",
		most:               "\xff\xff\xff\xff\xff\xff\xff\xff",
		least:              "\x00\x00\x00\x00\x00\x00\x00\x00",
	} {
		if b := Bytes(n); b != s {
			t.Errorf("Bytes(%d): %q", n, b)
		}
	}
	half := new(big.Int).Lsh(big.NewInt(1), 63)
	for _, n := range numbers() {
		sum := new(big.Int).Add(big.NewInt(n), half)
		if b := Bytes(n); b != string(sum.FillBytes(make([]byte, 8))) {
			t.Errorf("Bytes(%d): %q", n, b)
		}
	}
}

// P1.4.
func TestUnbytes(t *testing.T) {
	for k := range 20 {
		s := strings.Repeat("\x80", k)
		n, e := Unbytes(s)
		if k != 8 && (n != 0 || e != api.ErrForm) {
			t.Errorf("Unbytes of %d bytes: %d, %v", k, n, e)
		}
		if k == 8 && (n != 0x0080808080808080 || e != api.OK) {
			t.Errorf("Unbytes of %d bytes: %d, %v", k, n, e)
		}
	}
	for s, n := range map[string]int64{
		"\x00\x00\x00\x00\x00\x00\x00\x00": least,
		"\x7f\xff\xff\xff\xff\xff\xff\xff": -1,
		"\x80\x00\x00\x00\x00\x00\x00\x00": 0,
		"\x81\x02\x03\x04\x05\x06\x07\x08": 0x0102030405060708,
		"\xff\xff\xff\xff\xff\xff\xff\xff": most,
	} {
		if m, e := Unbytes(s); m != n || e != api.OK {
			t.Errorf("Unbytes(%q): %d, %v", s, m, e)
		}
	}
}

// places are numbers and lengths around 0, and at both ends.
func places() []int {
	l := []int{math.MinInt, math.MinInt + 1, math.MinInt / 2, math.MaxInt / 2, math.MaxInt - 1, math.MaxInt}
	for i := -9; i <= 9; i++ {
		l = append(l, i)
	}
	return l
}

// P1.5, R7.
func TestPlace(t *testing.T) {
	for _, n := range places() {
		for _, i := range places() {
			want, is := new(big.Int), false
			if i >= 0 && i < n {
				want, is = big.NewInt(int64(i)), true
			} else if i < 0 { // n and i together, if that is a place
				sum := new(big.Int).Add(big.NewInt(int64(n)), big.NewInt(int64(i)))
				if sum.Sign() >= 0 {
					want, is = sum, true
				}
			}
			if p, ok := Place(i, n); int64(p) != want.Int64() || ok != is {
				t.Errorf("Place(%d, %d): %d, %v; want %v, %v", i, n, p, ok, want, is)
			}
		}
	}
}

// P1.5.
func TestPlaceAtTheEdges(t *testing.T) {
	for _, x := range []struct {
		i, n, p int
		is      bool
	}{{0, 5, 0, true}, {4, 5, 4, true}, {5, 5, 0, false}, {-1, 5, 4, true}, {-5, 5, 0, true}, {-6, 5, 0, false}, {0, 1, 0, true}, {0, 0, 0, false}, {-1, 0, 0, false}, {0, -5, 0, false}, {-1, -5, 0, false}, {-6, -5, 0, false}, {math.MinInt, math.MaxInt, 0, false}, {math.MinInt + 1, math.MaxInt, 0, true}, {math.MinInt, math.MinInt, 0, false}} {
		if p, is := Place(x.i, x.n); p != x.p || is != x.is {
			t.Errorf("Place(%d, %d): %d, %v", x.i, x.n, p, is)
		}
	}
}

// end is an end of a piece of a list of n, without a limit on the way.
func end(i, n int) int {
	x, length := big.NewInt(int64(i)), big.NewInt(int64(n))
	if length.Sign() < 0 {
		length.SetInt64(0)
	}
	if x.Sign() < 0 {
		x.Add(x, length)
	}
	if x.Sign() < 0 {
		x.SetInt64(0)
	}
	if x.Cmp(length) > 0 {
		x = length
	}
	return int(x.Int64())
}

// P1.5, R7.
func TestCut(t *testing.T) {
	for _, n := range places() {
		for _, lo := range places() {
			for _, hi := range places() {
				begin, stop := end(lo, n), end(hi, n)
				if stop < begin {
					stop = begin
				}
				if a, b := Cut(lo, hi, n); a != begin || b != stop {
					t.Errorf("Cut(%d, %d, %d): %d, %d; want %d, %d", lo, hi, n, a, b, begin, stop)
				}
			}
		}
	}
}

// P1.5.
func TestCutAtTheEdges(t *testing.T) {
	for _, x := range []struct{ lo, hi, n, begin, stop int }{
		{0, 5, 5, 0, 5},
		{1, 3, 5, 1, 3},
		{-2, 9, 5, 3, 5},
		{-9, -1, 5, 0, 4},
		{4, 2, 5, 4, 4},
		{-1, -2, 5, 4, 4},
		{9, 0, 5, 5, 5},
		{-9, -8, 5, 0, 0},
		{0, 1, 0, 0, 0},
		{0, 1, -3, 0, 0},
		{-1, 4, -3, 0, 0},
		{0, api.Open, 5, 0, 5},
		{math.MinInt, math.MaxInt, math.MaxInt, 0, math.MaxInt},
		{math.MaxInt, math.MinInt, math.MinInt, 0, 0},
	} {
		if a, b := Cut(x.lo, x.hi, x.n); a != x.begin || b != x.stop {
			t.Errorf("Cut(%d, %d, %d): %d, %d", x.lo, x.hi, x.n, a, b)
		}
	}
}

// P1.6.
func TestThereAndBack(t *testing.T) {
	for _, n := range numbers() {
		if m, e := Parse(Digits(n)); m != n || e != api.OK {
			t.Errorf("Parse of Digits of %d: %d, %v", n, m, e)
		}
		if m, e := Unbytes(Bytes(n)); m != n || e != api.OK {
			t.Errorf("Unbytes of Bytes of %d: %d, %v", n, m, e)
		}
	}
	for _, s := range []string{"0", "5", "-5", "120", "-9223372036854775808", "9223372036854775807"} {
		if n, e := Parse(s); e != api.OK || Digits(n) != s {
			t.Errorf("Digits of Parse of %s: %s, %v", s, Digits(n), e)
		}
	}
	for _, s := range []string{"abcdefgh", "\x00\xff\x00\xff\x00\xff\x00\xff", "\x80\x7f\x80\x7f\x80\x7f\x80\x7f"} {
		if n, e := Unbytes(s); e != api.OK || Bytes(n) != s {
			t.Errorf("Bytes of Unbytes of %q: %q, %v", s, Bytes(n), e)
		}
	}
}

// P1.7.
func TestBytesAreInOrder(t *testing.T) {
	forPairs(func(a, b int64) {
		if (a < b) != (Bytes(a) < Bytes(b)) || (a == b) != (Bytes(a) == Bytes(b)) {
			t.Errorf("Bytes of %d and %d are not in order", a, b)
		}
	})
}

// P1.8.
func TestPartsMakeTheWhole(t *testing.T) {
	forPairs(func(a, b int64) {
		by, e := Div(a, b)
		if e != api.OK {
			return
		}
		left, e := Mod(a, b)
		if e != api.OK {
			t.Errorf("Mod(%d, %d): %v, but there is a quotient", a, b, e)
		}
		whole := new(big.Int).Mul(big.NewInt(b), big.NewInt(by))
		whole.Add(whole, big.NewInt(left))
		if whole.Cmp(big.NewInt(a)) != 0 {
			t.Errorf("%d times %d and %d are %v, not %d", b, by, left, whole, a)
		}
	})
}

// P1, R2: with an error there is nothing else, and it is one that the call names.
func TestNothingBesideAnError(t *testing.T) {
	check := func(call string, n int64, e api.Errno, named ...api.Errno) {
		t.Helper()
		if e == api.OK {
			return
		}
		if n != 0 {
			t.Errorf("%s: %d beside %v", call, n, e)
		}
		for _, x := range named {
			if e == x {
				return
			}
		}
		t.Errorf("%s: %v is not named", call, e)
	}
	forPairs(func(a, b int64) {
		n, e := Add(a, b)
		check("Add", n, e, api.ErrRange)
		n, e = Sub(a, b)
		check("Sub", n, e, api.ErrRange)
		n, e = Mul(a, b)
		check("Mul", n, e, api.ErrRange)
		n, e = Div(a, b)
		check("Div", n, e, api.ErrZero, api.ErrRange)
		n, e = Mod(a, b)
		check("Mod", n, e, api.ErrZero)
	})
	for _, s := range []string{"", "-", "1x", "-1x", "12345x", "92233720368547758070", "-92233720368547758090", "9223372036854775808"} {
		n, e := Parse(s)
		check("Parse", n, e, api.ErrForm, api.ErrRange)
		n, e = Unbytes(s)
		check("Unbytes", n, e, api.ErrForm)
	}
}

// R1, R4: what is asked once more is answered the same, whatever was asked between.
func TestTheSameOnceMore(t *testing.T) {
	type answers struct {
		sum, by, left      int64
		addE, divE, modE   api.Errno
		digits, bytes      string
		place, begin, stop int
		is                 bool
	}
	ask := func(a, b int64) answers {
		var x answers
		x.sum, x.addE = Add(a, b)
		x.by, x.divE = Div(a, b)
		x.left, x.modE = Mod(a, b)
		x.digits, x.bytes = Digits(a), Bytes(a)
		x.place, x.is = Place(int(a), int(b))
		x.begin, x.stop = Cut(int(a), int(b), 9)
		return x
	}
	first := map[[2]int64]answers{}
	forPairs(func(a, b int64) { first[[2]int64{a, b}] = ask(a, b) })
	forPairs(func(a, b int64) {
		if ask(a, b) != first[[2]int64{a, b}] {
			t.Errorf("other answers of %d and %d", a, b)
		}
	})
}

// Ways: a hyphen's case falls through to the digits' one.
func TestHyphenFallsThroughToDigits(t *testing.T) {
	file, err := parser.ParseFile(token.NewFileSet(), "num.go", nil, 0)
	if err != nil {
		t.Fatal(err)
	}
	found := false
	ast.Inspect(file, func(n ast.Node) bool {
		cases, ok := n.(*ast.SwitchStmt)
		if !ok {
			return true
		}
		for i := 1; i < len(cases.Body.List); i++ {
			c, next := cases.Body.List[i-1].(*ast.CaseClause), cases.Body.List[i].(*ast.CaseClause)
			found = found || hasLabel(c, "'-'") && hasLabel(next, "'0'") && fallsThrough(c)
		}
		return true
	})
	if !found {
		t.Error("no case of a hyphen falls through to one of digits")
	}
}

func hasLabel(c *ast.CaseClause, label string) bool {
	for _, e := range c.List {
		if b, ok := e.(*ast.BasicLit); ok && b.Value == label {
			return true
		}
	}
	return false
}

func fallsThrough(c *ast.CaseClause) bool {
	if len(c.Body) == 0 {
		return false
	}
	b, ok := c.Body[len(c.Body)-1].(*ast.BranchStmt)
	return ok && b.Tok == token.FALLTHROUGH
}
