package scalar

import (
	"encoding/binary"
	"encoding/hex"
	"go/ast"
	"go/parser"
	"go/token"
	"math"
	"math/big"
	"regexp"
	"slices"
	"strings"
	"testing"

	"placket/api"
	"placket/mix"
)

func boolean(n int64) api.Scalar { return api.Scalar{Kind: api.KBool, Int: n} }

func number(n int64) api.Scalar { return api.Scalar{Kind: api.KInt, Int: n} }

func text(s string) api.Scalar { return api.Scalar{Kind: api.KText, Text: s} }

// scalars are all kinds' edges, and texts of up to three bytes of some.
func scalars() []api.Scalar {
	l := []api.Scalar{{}, boolean(0), boolean(1)}
	for _, n := range []int64{0, 1, 2, 3, 9, 127, 128, 255, 256, 257, 65535, 65536, 1 << 31, 1<<32 - 1, 1 << 62, math.MaxInt64 - 1, math.MaxInt64} {
		l = append(l, number(n), number(-n-1))
	}
	const some = "\x00\x01\x7fa\xfe\xff"
	texts := []string{""}
	for range 3 {
		for _, s := range texts {
			l = append(l, text(s))
		}
		var longer []string
		for _, s := range texts {
			for i := range len(some) {
				longer = append(longer, s+some[i:i+1])
			}
		}
		texts = longer
	}
	for _, s := range []string{"abc", "null", "\x00\x00\x00\x00", "\x00\xff\x00\xff", "\xff\x00\x00", "é", "日本", strings.Repeat("a", 300), strings.Repeat("a", 299) + "b", strings.Repeat("\x00", 300), strings.Repeat("\xff", 300)} {
		l = append(l, text(s))
	}
	return l
}

// wrong is no scalar, with the error that is named first.
type wrong struct {
	s api.Scalar
	e api.Errno
}

func none() []wrong {
	return []wrong{
		{api.Scalar{Kind: -1}, api.ErrKind},
		{api.Scalar{Kind: api.KVec}, api.ErrKind},
		{api.Scalar{Kind: api.KMap}, api.ErrKind},
		{api.Scalar{Kind: api.KSet}, api.ErrKind},
		{api.Scalar{Kind: 7}, api.ErrKind},
		{api.Scalar{Kind: 256}, api.ErrKind},
		{api.Scalar{Kind: 1<<32 + 1}, api.ErrKind},
		{api.Scalar{Kind: math.MaxInt}, api.ErrKind},
		{api.Scalar{Kind: math.MinInt}, api.ErrKind},
		{api.Scalar{Kind: api.KVec, Int: 1, Text: "a"}, api.ErrKind},
		{api.Scalar{Kind: -1, Int: 2}, api.ErrKind},
		{api.Scalar{Kind: api.KNull, Int: 1}, api.ErrArg},
		{api.Scalar{Kind: api.KNull, Int: math.MinInt64}, api.ErrArg},
		{api.Scalar{Kind: api.KNull, Text: "a"}, api.ErrArg},
		{api.Scalar{Kind: api.KNull, Int: 1, Text: "a"}, api.ErrArg},
		{api.Scalar{Kind: api.KBool, Text: "a"}, api.ErrArg},
		{api.Scalar{Kind: api.KBool, Int: 1, Text: "\x00"}, api.ErrArg},
		{api.Scalar{Kind: api.KBool, Int: 2, Text: "a"}, api.ErrArg},
		{api.Scalar{Kind: api.KBool, Int: -1, Text: "a"}, api.ErrArg},
		{api.Scalar{Kind: api.KInt, Text: "a"}, api.ErrArg},
		{api.Scalar{Kind: api.KInt, Int: 5, Text: "5"}, api.ErrArg},
		{api.Scalar{Kind: api.KText, Int: 1}, api.ErrArg},
		{api.Scalar{Kind: api.KText, Int: -1, Text: "a"}, api.ErrArg},
		{api.Scalar{Kind: api.KText, Int: math.MaxInt64, Text: "a\x00b"}, api.ErrArg},
		{api.Scalar{Kind: api.KBool, Int: 2}, api.ErrRange},
		{api.Scalar{Kind: api.KBool, Int: -1}, api.ErrRange},
		{api.Scalar{Kind: api.KBool, Int: 256}, api.ErrRange},
		{api.Scalar{Kind: api.KBool, Int: 257}, api.ErrRange},
		{api.Scalar{Kind: api.KBool, Int: 1 << 32}, api.ErrRange},
		{api.Scalar{Kind: api.KBool, Int: math.MaxInt64}, api.ErrRange},
		{api.Scalar{Kind: api.KBool, Int: math.MinInt64}, api.ErrRange},
	}
}

// all are scalars, and some that are none.
func all() []api.Scalar {
	l := scalars()
	for _, x := range none() {
		l = append(l, x.s)
	}
	return l
}

// few are some of all, so that three of them can be taken at a time.
func few() []api.Scalar {
	var l []api.Scalar
	for i, s := range all() {
		if i < 60 || i%4 == 0 {
			l = append(l, s)
		}
	}
	return l
}

// P5.1.
func TestCheck(t *testing.T) {
	for _, s := range scalars() {
		if e := Check(s); e != api.OK {
			t.Errorf("Check(%#v): %v", s, e)
		}
	}
	for _, x := range none() {
		if e := Check(x.s); e != x.e {
			t.Errorf("Check(%#v): %v; want %v", x.s, e, x.e)
		}
	}
}

// P5.1: each field counts, of what is no scalar, too.
func TestSame(t *testing.T) {
	for _, x := range []struct {
		a, b api.Scalar
		same bool
	}{
		{api.Scalar{}, api.Scalar{}, true},
		{api.Scalar{}, boolean(0), false},
		{boolean(1), boolean(1), true},
		{boolean(1), boolean(0), false},
		{boolean(1), number(1), false},
		{number(-5), number(-5), true},
		{number(1), number(1 + 1<<32), false},
		{number(0), text(""), false},
		{text("a\x00"), text("a\x00"), true},
		{text("a\x00"), text("a"), false},
		{text("a"), text("A"), false},
		{text(strings.Repeat("a", 20)), text(strings.Repeat("a", 10) + strings.Repeat("a", 10)), true},
		{api.Scalar{Kind: 9, Int: 3, Text: "a"}, api.Scalar{Kind: 9, Int: 3, Text: "a"}, true},
		{api.Scalar{Kind: 9, Int: 3, Text: "a"}, api.Scalar{Kind: 9, Int: 3, Text: "b"}, false},
		{api.Scalar{Kind: 9, Int: 3, Text: "a"}, api.Scalar{Kind: 9, Int: 4, Text: "a"}, false},
		{api.Scalar{Kind: 9, Int: 3, Text: "a"}, api.Scalar{Kind: 8, Int: 3, Text: "a"}, false},
		{api.Scalar{Text: "a"}, api.Scalar{}, false},
		{api.Scalar{Kind: api.KText, Int: 1, Text: "a"}, text("a"), false},
	} {
		if is := Same(x.a, x.b); is != x.same {
			t.Errorf("Same(%#v, %#v): %v", x.a, x.b, is)
		}
		if is := Same(x.b, x.a); is != x.same {
			t.Errorf("Same(%#v, %#v): %v", x.b, x.a, is)
		}
	}
}

// P5.1: by kind, then by number, then by text, of what is no scalar, too.
func TestOrderAtTheEdges(t *testing.T) {
	rising := []api.Scalar{
		{Kind: math.MinInt, Int: 9, Text: "z"},
		{Kind: -1},
		{Int: -1, Text: "z"},
		{},
		{Text: "a"},
		{Int: 1},
		boolean(-1),
		boolean(0),
		{Kind: api.KBool, Text: "a"},
		boolean(1),
		boolean(2),
		number(math.MinInt64),
		number(math.MinInt64 + 1),
		number(-1 << 32),
		number(-2),
		number(-1),
		number(0),
		number(1),
		number(9),
		number(10),
		number(1 << 32),
		number(math.MaxInt64),
		{Kind: api.KInt, Int: math.MaxInt64, Text: "\x00"},
		{Kind: api.KText, Int: -1, Text: "b"},
		text(""),
		text("\x00"),
		text("\x00\x00"),
		text("\x00\x01"),
		text("\x00\xff"),
		text("\x01"),
		text("Z"),
		text("a"),
		text("a\x00"),
		text("a\x00\xff"),
		text("a\x01"),
		text("aa"),
		text("a\xff"),
		text("b"),
		text("\x7f"),
		text("\x80"),
		text("\xff"),
		{Kind: api.KText, Int: 1},
		{Kind: api.KVec},
		{Kind: math.MaxInt},
	}
	for i, a := range rising {
		for k, b := range rising {
			want := 0
			if i < k {
				want = -1
			}
			if i > k {
				want = 1
			}
			if n := Order(a, b); n != want {
				t.Errorf("Order(%#v, %#v): %d; want %d", a, b, n, want)
			}
		}
	}
}

// P5.6: of two that are not the same one is ahead, and what is ahead of what is ahead is ahead.
func TestOrderIsTotal(t *testing.T) {
	l := few()
	for _, a := range l {
		for _, b := range l {
			n := Order(a, b)
			if n != -Order(b, a) || n < -1 || n > 1 {
				t.Errorf("Order of %#v and %#v: %d, %d", a, b, n, Order(b, a))
			}
			same := a.Kind == b.Kind && a.Int == b.Int && a.Text == b.Text
			if (n == 0) != same || Same(a, b) != same {
				t.Errorf("Order of %#v and %#v: %d; Same: %v", a, b, n, Same(a, b))
			}
			for _, c := range l {
				if n < 0 && Order(b, c) < 0 && Order(a, c) >= 0 {
					t.Errorf("%#v, %#v, %#v are ahead, but the first one isn't", a, b, c)
				}
			}
		}
	}
}

// keyed is what Key must tell of a scalar.
func keyed(s api.Scalar) string {
	switch s.Kind {
	case api.KBool:
		return "\x02" + map[int64]string{0: "\x00", 1: "\x01"}[s.Int]
	case api.KInt:
		n := new(big.Int).Lsh(big.NewInt(1), 63)
		return "\x03" + string(n.Add(n, big.NewInt(s.Int)).FillBytes(make([]byte, 8)))
	case api.KText:
		return "\x04" + strings.ReplaceAll(s.Text, "\x00", "\x00\xff") + "\x00\x00"
	}
	return "\x01"
}

// P5.2.
func TestKey(t *testing.T) {
	for _, x := range []struct {
		s   api.Scalar
		key string
	}{
		{api.Scalar{}, "01"},
		{boolean(0), "0200"},
		{boolean(1), "0201"},
		{number(0), "038000000000000000"},
		{number(1), "038000000000000001"},
		{number(-1), "037fffffffffffffff"},
		{number(0x0102030405060708), "038102030405060708"},
		{number(math.MaxInt64), "03ffffffffffffffff"},
		{number(math.MinInt64), "030000000000000000"},
		{text(""), "040000"},
		{text("a"), "04610000"},
		{text("\x00"), "0400ff0000"},
		{text("\x00\x00"), "0400ff00ff0000"},
		{text("a\x00b"), "046100ff620000"},
		{text("\xff"), "04ff0000"},
		{text("\x00\xff"), "0400ffff0000"},
		{text("\xff\x00"), "04ff00ff0000"},
		{text("\x01\x02\x03\x04"), "04010203040000"},
		{text("é"), "04c3a90000"},
	} {
		if key := hex.EncodeToString([]byte(Key(x.s))); key != x.key {
			t.Errorf("Key(%#v): %s; want %s", x.s, key, x.key)
		}
	}
	for _, s := range scalars() {
		if key := Key(s); key != keyed(s) {
			t.Errorf("Key(%#v): %x; want %x", s, key, keyed(s))
		}
	}
	for _, x := range none() {
		if key := Key(x.s); key != "" {
			t.Errorf("Key(%#v): %x", x.s, key)
		}
	}
}

// What keys look like, each byte being a rune of its own: whole ones, and what whole ones begin with.
var (
	wholeForm = regexp.MustCompile(`(?s)^(?:\x01|\x02[\x00\x01]|\x03.{8}|\x04(?:[^\x00]|\x00\x{FF})*\x00\x00)`)
	partForm  = regexp.MustCompile(`(?s)^(?:\x01|\x02[\x00\x01]?|\x03.{0,8}|\x04(?:[^\x00]|\x00\x{FF})*\x00?)?`)
)

// runes is s with each byte as a rune of its own.
func runes(s string) string {
	l := make([]rune, len(s))
	for i := range l {
		l[i] = rune(s[i])
	}
	return string(l)
}

// told is the scalar of a whole key.
func told(key string) api.Scalar {
	switch key[0] {
	case 2:
		return boolean(int64(key[1]))
	case 3:
		return number(int64(binary.BigEndian.Uint64([]byte(key[1:])) ^ 1<<63))
	case 4:
		return text(strings.ReplaceAll(key[1:len(key)-2], "\x00\xff", "\x00"))
	}
	return api.Scalar{}
}

// unkeyed is what Unkey must tell of k.
func unkeyed(k string) (api.Scalar, int, api.Errno) {
	wide := runes(k)
	if n := len([]rune(wholeForm.FindString(wide))); n > 0 {
		return told(k[:n]), n, api.OK
	}
	at := len([]rune(partForm.FindString(wide)))
	if at == len(k) {
		return api.Scalar{}, at, api.ErrShort
	}
	return api.Scalar{}, at, api.ErrForm
}

func checkUnkey(t *testing.T, k string) {
	t.Helper()
	s, n, e := Unkey(k)
	if wantS, wantN, wantE := unkeyed(k); s != wantS || n != wantN || e != wantE {
		t.Errorf("Unkey(%x): %#v, %d, %v; want %#v, %d, %v", k, s, n, e, wantS, wantN, wantE)
	}
}

// P5.2.
func TestUnkeyAtTheEdges(t *testing.T) {
	for _, x := range []struct {
		k string // as hexadecimal digits
		s api.Scalar
		n int
		e api.Errno
	}{
		{"01", api.Scalar{}, 1, api.OK},
		{"0101", api.Scalar{}, 1, api.OK},
		{"0100", api.Scalar{}, 1, api.OK},
		{"0200", boolean(0), 2, api.OK},
		{"0201", boolean(1), 2, api.OK},
		{"020102", boolean(1), 2, api.OK},
		{"038000000000000000", number(0), 9, api.OK},
		{"030000000000000000", number(math.MinInt64), 9, api.OK},
		{"03ffffffffffffffff", number(math.MaxInt64), 9, api.OK},
		{"037fffffffffffffff00", number(-1), 9, api.OK},
		{"038102030405060708ff", number(0x0102030405060708), 9, api.OK},
		{"040000", text(""), 3, api.OK},
		{"040000ff0000", text(""), 3, api.OK},
		{"0400ff0000", text("\x00"), 5, api.OK},
		{"0400ff00ff0000", text("\x00\x00"), 7, api.OK},
		{"04ffff0000", text("\xff\xff"), 5, api.OK},
		{"0400ffff0000", text("\x00\xff"), 6, api.OK},
		{"04ff00ff0000", text("\xff\x00"), 6, api.OK},
		{"04610000", text("a"), 4, api.OK},
		{"0461000000", text("a"), 4, api.OK},
		{"046100ff62000001", text("a\x00b"), 7, api.OK},
		{"04010203040000", text("\x01\x02\x03\x04"), 7, api.OK},
		{"", api.Scalar{}, 0, api.ErrShort},
		{"02", api.Scalar{}, 1, api.ErrShort},
		{"03", api.Scalar{}, 1, api.ErrShort},
		{"0380", api.Scalar{}, 2, api.ErrShort},
		{"0380000000000000", api.Scalar{}, 8, api.ErrShort},
		{"04", api.Scalar{}, 1, api.ErrShort},
		{"0400", api.Scalar{}, 2, api.ErrShort},
		{"0461", api.Scalar{}, 2, api.ErrShort},
		{"046100", api.Scalar{}, 3, api.ErrShort},
		{"0400ff", api.Scalar{}, 3, api.ErrShort},
		{"0400ff00", api.Scalar{}, 4, api.ErrShort},
		{"0400ff61", api.Scalar{}, 4, api.ErrShort},
		{"00", api.Scalar{}, 0, api.ErrForm},
		{"0001", api.Scalar{}, 0, api.ErrForm},
		{"05", api.Scalar{}, 0, api.ErrForm},
		{"06", api.Scalar{}, 0, api.ErrForm},
		{"ff", api.Scalar{}, 0, api.ErrForm},
		{"81", api.Scalar{}, 0, api.ErrForm},
		{"0202", api.Scalar{}, 1, api.ErrForm},
		{"02ff00", api.Scalar{}, 1, api.ErrForm},
		{"0281", api.Scalar{}, 1, api.ErrForm},
		{"040001", api.Scalar{}, 2, api.ErrForm},
		{"0400fe0000", api.Scalar{}, 2, api.ErrForm},
		{"0461620061", api.Scalar{}, 4, api.ErrForm},
		{"0400ff0001", api.Scalar{}, 4, api.ErrForm},
		{"0400ff00fe00", api.Scalar{}, 4, api.ErrForm},
		{"04000100", api.Scalar{}, 2, api.ErrForm},
	} {
		k, err := hex.DecodeString(x.k)
		if err != nil {
			t.Fatal(err)
		}
		if s, n, e := Unkey(string(k)); s != x.s || n != x.n || e != x.e {
			t.Errorf("Unkey(%s): %#v, %d, %v; want %#v, %d, %v", x.k, s, n, e, x.s, x.n, x.e)
		}
		checkUnkey(t, string(k))
	}
}

// P5.2, R1: each byte wherever one may stand.
func TestUnkeyOfEachByte(t *testing.T) {
	for c := range 256 {
		b := string([]byte{byte(c)})
		for _, k := range []string{b, "\x01" + b, "\x02" + b, "\x03" + b, "\x03aaaaaaa" + b, "\x04" + b, "\x04a" + b, "\x04\x00" + b, "\x04a\x00" + b, "\x04\x00\xff" + b, "\x04\x00\xff\x00" + b, "\x04\x00\x00" + b} {
			for _, behind := range []string{"", "\x00", "\x00\x00", "\xff", "a\x00\x00"} {
				checkUnkey(t, k+behind)
			}
		}
	}
}

// P5.2.
func TestUnkeyOfAllShortTexts(t *testing.T) {
	const bytes = "\x00\x01\x02\x03\x04\x05a\xff"
	l := []string{""}
	for range 6 {
		var longer []string
		for _, k := range l {
			checkUnkey(t, k)
			for i := range len(bytes) {
				longer = append(longer, k+bytes[i:i+1])
			}
		}
		l = longer
	}
}

// P5.4: each key that is cut off is told to be, too.
func TestThereAndBack(t *testing.T) {
	for _, s := range scalars() {
		key := Key(s)
		for _, behind := range []string{"", "\x00", "\xff", "\x01", "\x00\xff", "\x00\x00", "\xff\x00\x00", key} {
			if g, n, e := Unkey(key + behind); g != s || n != len(key) || e != api.OK {
				t.Errorf("Unkey of the key of %#v, and %x: %#v, %d, %v", s, behind, g, n, e)
			}
		}
		for n := range key {
			if g, m, e := Unkey(key[:n]); g != (api.Scalar{}) || m != n || e != api.ErrShort {
				t.Errorf("Unkey of %d bytes of the key of %#v: %#v, %d, %v", n, s, g, m, e)
			}
		}
	}
}

// P5.4: what is read has the key that was read.
func TestWhatIsReadHasThatKey(t *testing.T) {
	read := 0
	l := []string{"\x01", "\x02", "\x03aaaaaa", "\x04"}
	for range 5 {
		var longer []string
		for _, k := range l {
			if s, n, e := Unkey(k); e == api.OK {
				read++
				if Key(s) != k[:n] || Check(s) != api.OK {
					t.Errorf("Unkey(%x): %#v, %d, %v, whose key is %x", k, s, n, e, Key(s))
				}
			}
			for _, c := range []string{"\x00", "\x01", "a", "\xff"} {
				longer = append(longer, k+c)
			}
		}
		l = longer
	}
	if read < 500 {
		t.Errorf("only %d keys were read", read)
	}
}

// P5.5.
func TestKeysAreInOrder(t *testing.T) {
	l := scalars()
	behind := []string{"", "\x00", "\xff"}
	for _, a := range l {
		for _, b := range l {
			n := Order(a, b)
			if n != 0 && strings.HasPrefix(Key(a), Key(b)) {
				t.Errorf("the key of %#v begins that of %#v", b, a)
			}
			for _, x := range behind {
				for _, y := range behind {
					if n != 0 && strings.Compare(Key(a)+x, Key(b)+y) != n {
						t.Errorf("keys of %#v and %#v, with %x and %x behind, are not in their order, %d", a, b, x, y, n)
					}
				}
			}
		}
	}
}

// P5.3: reckoned apart from the package.
func TestHash(t *testing.T) {
	for _, x := range []struct {
		s         api.Scalar
		of0, of64 uint64 // by the seeds 0 and 64
	}{
		{api.Scalar{}, 0x3b1b1d15a00da38c, 0x19077824339fa982},
		{boolean(0), 0x09201e703f44d10b, 0xb71a32dde1b6f842},
		{boolean(1), 0x1fab85792cdbca02, 0x9a789b1c49c0d183},
		{number(0), 0x0723547d88710954, 0x0c3c731706286cc6},
		{number(-1), 0x2e98f04768cd5f06, 0x97d2d37da921b1fd},
		{number(math.MaxInt64), 0x21110b4ad9b04799, 0x9aa22a9dc78864c7},
		{number(math.MinInt64), 0x087244d111d568ca, 0x0b736a5dbf59a8ce},
		{text(""), 0x4491727b1e590f20, 0x2fc9cdd41915494c},
		{text("a"), 0x77e49b9dbe52091d, 0x5483ef1ba1975e68},
		{text("\x00"), 0x08c66c424ddda8bc, 0x3f05b97358700f40},
		{text("placket has sums"), 0x4ef88750723807e9, 0x7aa83e6ffde59aa9},
		{api.Scalar{Kind: api.KVec}, 0x4179b061e0c0e0d0, 0x3719578380572eed}, // the sum of no bytes
	} {
		if sum := Hash(0, x.s); sum != x.of0 {
			t.Errorf("Hash(0, %#v): %#x; want %#x", x.s, sum, x.of0)
		}
		if sum := Hash(64, x.s); sum != x.of64 {
			t.Errorf("Hash(64, %#v): %#x; want %#x", x.s, sum, x.of64)
		}
	}
	for _, seed := range []uint64{0, 1, 99, 1 << 63, math.MaxUint64} {
		for _, s := range scalars() {
			if sum := Hash(seed, s); sum != mix.Text(seed, keyed(s)) {
				t.Errorf("Hash(%#x, %#v): %#x", seed, s, sum)
			}
		}
		for _, x := range none() {
			if sum := Hash(seed, x.s); sum != mix.Text(seed, "") {
				t.Errorf("Hash(%#x, %#v): %#x", seed, x.s, sum)
			}
		}
	}
}

// P1, R2, R4: all is answered, and the same once more; with an error there is no scalar, and its place is within the text or at its end.
func TestNothingBesideAnError(t *testing.T) {
	type answers struct {
		check, e api.Errno
		key      string
		sum      uint64
		s        api.Scalar
		n        int
	}
	ask := func(s api.Scalar, k string) answers {
		x := answers{check: Check(s), key: Key(s), sum: Hash(7, s)}
		x.s, x.n, x.e = Unkey(k)
		return x
	}
	var keys []string
	for _, s := range scalars() {
		keys = append(keys, Key(s), Key(s)[1:], "\x04"+Key(s), "\x03"+Key(s), "\x02"+Key(s), s.Text)
	}
	l := all()
	var first []answers
	for i, k := range keys {
		x := ask(l[i%len(l)], k)
		first = append(first, x)
		if x.e != api.OK && x.s != (api.Scalar{}) || (x.check != api.OK) != (x.key == "") {
			t.Errorf("of %x there is %#v beside %v", k, x.s, x.e)
		}
		if x.n < 0 || x.n > len(k) || x.e == api.ErrShort && x.n != len(k) || x.e == api.ErrForm && x.n == len(k) {
			t.Errorf("of %x: %v at %d", k, x.e, x.n)
		}
	}
	for i, k := range slices.Backward(keys) {
		if ask(l[i%len(l)], k) != first[i] {
			t.Errorf("other answers of %#v and %x", l[i%len(l)], k)
		}
	}
}

// Bound: what lies behind the key costs nothing.
func TestUnkeyReadsNoFurther(t *testing.T) {
	long := strings.Repeat(Key(text("a\x00"))+Key(number(7)), 1<<16)
	for at := 0; at < len(long); {
		s, n, e := Unkey(long[at:])
		if s != text("a\x00") && s != number(7) || e != api.OK {
			t.Fatalf("Unkey at %d: %#v, %d, %v", at, s, n, e)
		}
		at += n
	}
}

// Bound: a text of a million noughts.
func TestKeyOfALongText(t *testing.T) {
	s := text(strings.Repeat("\x00", 1<<20))
	key := Key(s)
	if len(key) != 2<<20+3 {
		t.Errorf("the key has %d bytes", len(key))
	}
	if g, n, e := Unkey(key); g != s || n != len(key) || e != api.OK {
		t.Errorf("it is not read: %d, %v", n, e)
	}
}

// Ways: the bytes of a key are told by a switch whose cases fall through; scalars are held against each other as structs.
func TestWays(t *testing.T) {
	file, err := parser.ParseFile(token.NewFileSet(), "scalar.go", nil, 0)
	if err != nil {
		t.Fatal(err)
	}
	through, held := false, false
	for _, d := range file.Decls {
		f, ok := d.(*ast.FuncDecl)
		if !ok {
			continue
		}
		ast.Inspect(f, func(n ast.Node) bool {
			switch x := n.(type) {
			case *ast.BranchStmt:
				through = through || x.Tok == token.FALLTHROUGH
			case *ast.BinaryExpr:
				held = held || f.Name.Name == "Same" && x.Op == token.EQL && isName(x.X, "a") && isName(x.Y, "b")
			}
			return true
		})
	}
	if !through {
		t.Error("no case falls through")
	}
	if !held {
		t.Error("Same does not hold its scalars against each other as they are")
	}
}

func isName(e ast.Expr, name string) bool {
	id, ok := e.(*ast.Ident)
	return ok && id.Name == name
}
