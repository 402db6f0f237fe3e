package codec

import (
	"go/ast"
	"go/parser"
	"go/token"
	"math"
	"reflect"
	"slices"
	"strconv"
	"strings"
	"testing"

	"placket/api"
	"placket/fault"
	"placket/lex"
	"placket/value"
)

// usual is how values are built where nothing else is asked for.
func usual() api.Conf { return api.Conf{Seed: 7, Bits: 64} }

func confs() []api.Conf {
	return []api.Conf{{}, {Seed: 1, Bits: 1}, {Seed: 2, Bits: 5}, {Seed: 3, Bits: 64}, {Seed: math.MaxUint64, Bits: 63}, {Bits: -1}, {Bits: 65}, {Seed: 9, Bits: math.MinInt}}
}

func of(t *testing.T, c api.Conf, x api.Tree) value.Value {
	t.Helper()
	v, err := value.Of(c, x)
	if err != api.OK {
		t.Fatalf("Of(%+v): %v", x, err)
	}
	return v
}

// brief is s, or its ends, if it is long.
func brief(s string) string {
	if len(s) < 200 {
		return strconv.Quote(s)
	}
	return strconv.Quote(s[:40]) + " .. " + strconv.Quote(s[len(s)-40:])
}

// checkError holds an error against the number and the place that it must have: nil of OK, else one Fault under which is the Errno itself.
func checkError(t *testing.T, call string, err error, code api.Errno, place int) {
	t.Helper()
	if code == api.OK {
		if err != nil {
			t.Errorf("%s: %v", call, err)
		}
		return
	}
	f, is := err.(*fault.Fault)
	if !is || f == nil {
		t.Fatalf("%s: %v, which is no Fault; want %d at %d", call, err, code, place)
	}
	if under, is := f.Under.(api.Errno); !is || under != code || f.At != place {
		t.Errorf("%s: %v; want %d at %d", call, err, code, place)
	}
}

// checkValue holds a value against the tree that it must tell; null, if there is an error.
func checkValue(t *testing.T, call string, v value.Value, want api.Tree) {
	t.Helper()
	if v.Key() != keyOf(want) || !reflect.DeepEqual(v.Tree(), canonical(want)) {
		t.Errorf("%s: %+v; want %+v", call, v.Tree(), canonical(want))
	}
}

func checkTake(t *testing.T, s string, at int) {
	t.Helper()
	want, wantEnd, code, place := take(s, at)
	v, end, err := Take(usual(), s, at)
	call := "Take of " + brief(s) + " at " + strconv.Itoa(at)
	checkError(t, call, err, code, place)
	checkValue(t, call, v, want)
	if end != wantEnd {
		t.Errorf("%s: it ends at %d; want %d", call, end, wantEnd)
	}
}

// checkRead asks Take at the beginning, Parse and Canon.
func checkRead(t *testing.T, s string) {
	t.Helper()
	checkTake(t, s, 0)
	want, code, place := parse(s)
	v, err := Parse(usual(), s)
	checkError(t, "Parse of "+brief(s), err, code, place)
	checkValue(t, "Parse of "+brief(s), v, want)
	if is := canon(s); Canon(s) != is {
		t.Errorf("Canon of %s: %v", brief(s), !is)
	}
}

// checkAll asks Take at each other place, and just beside both ends, too.
func checkAll(t *testing.T, s string) {
	t.Helper()
	checkRead(t, s)
	for at := -1; at <= len(s)+1; at++ {
		checkTake(t, s, at)
	}
}

// example is a value, and its canonical text.
type example struct {
	tree api.Tree
	text string
}

func examples() []example {
	return []example{
		{api.Tree{}, "null"},
		{boolean(0), "false"},
		{boolean(1), "true"},
		{number(0), "0"},
		{number(-40), "-40"},
		{number(math.MaxInt64), "9223372036854775807"},
		{number(math.MinInt64), "-9223372036854775808"},
		{text(""), `""`},
		{text("null"), `"null"`},
		{text("a \"b\"\\/"), `"a \"b\"\\/"`},
		{text("\n\t\r\x00\x7f\xff~"), `"\n\t\r\x00\x7f\xff~"`},
		{text("é"), `"\xc3\xa9"`},
		{vec(), "[]"},
		{dict(""), "{}"},
		{set(), "<>"},
		{vec(number(2), number(1), number(2)), "[2,1,2]"},
		{vec(vec(), dict(""), set(), api.Tree{}), "[[],{},<>,null]"},
		{dict("b a", set(number(2), number(1)), api.Tree{}), `{"a":null,"b":<1,2>}`},
		{dict("b a aa B", number(1), number(2), number(3), number(4)), `{"B":4,"a":2,"aa":3,"b":1}`},
		{api.Tree{Kind: api.KMap, Keys: []string{"\xff", "", "a\x00", "a", "\n"}, Items: make([]api.Tree, 5)}, `{"":null,"\n":null,"a":null,"a\x00":null,"\xff":null}`},
		{dict("a", dict("a", dict(""))), `{"a":{"a":{}}}`},
		{set(number(10), number(9), number(-1)), "<-1,9,10>"},
		{set(text("b"), text("a"), text("aa"), text("")), `<"","a","aa","b">`},
		{set(text("a\x00"), text("a\x01"), text("a")), `<"a","a\x00","a\x01">`},
		{set(set(), dict(""), vec(), text("a"), number(5), boolean(1), boolean(0), api.Tree{}), `<null,false,true,5,"a",[],{},<>>`},
		{set(vec(number(2)), vec(number(1), number(1)), vec(number(1)), vec()), "<[],[1],[1,1],[2]>"},
		{set(dict("b", number(1)), dict("a", number(2)), dict("a", number(1))), `<{"a":1},{"a":2},{"b":1}>`},
		{set(set(set(set()))), "<<<<>>>>"},
		{set(set(number(2), number(1)), set(number(2)), set(number(1))), "<<1>,<1,2>,<2>>"},
	}
}

// P14.1, P14.4, P14.5: the canonical text of each, which hangs on no Conf and no order; and its value.
func TestExamples(t *testing.T) {
	if s := Encode(value.Value{}); s != "null" {
		t.Errorf("Encode of the zero value: %s", s)
	}
	for _, x := range examples() {
		for _, c := range confs() {
			if s := Encode(of(t, c, x.tree)); s != x.text {
				t.Errorf("Encode of %+v: %s; want %s", x.tree, s, x.text)
			}
			v, err := Parse(c, x.text)
			checkError(t, "Parse of "+x.text, err, api.OK, 0)
			checkValue(t, "Parse of "+x.text, v, x.tree)
		}
		if !Canon(x.text) {
			t.Errorf("Canon of %s: false", x.text)
		}
		checkAll(t, x.text)
		checkAll(t, textOf(x.tree))
	}
}

// P14.1, P14.5: what a value came to by other ways has the same text.
func TestEncodeOfChanged(t *testing.T) {
	for _, c := range confs() {
		some, _ := of(t, c, set(number(3), number(1))).Add(of(t, usual(), vec(text("a"))))
		some, _ = some.Add(of(t, c, number(2)))
		some, _ = some.Cut(api.Step{Kind: api.StMember, Text: keyOf(number(1))})
		named, _ := of(t, c, dict("b", number(1))).Set(api.Step{Kind: api.StKey, Text: "a"}, some)
		list, _ := of(t, c, vec(number(1), number(2))).Insert(1, named)
		if s := Encode(list); s != `[1,{"a":<2,3,["a"]>,"b":1},2]` {
			t.Errorf("Encode: %s", s)
		}
		if s := Encode(named); s != `{"a":<2,3,["a"]>,"b":1}` {
			t.Errorf("Encode: %s", s)
		}
	}
}

// P14.2, P14.6: texts with blanks, with keys and members in any order, from any place on, and what stands behind.
func TestTake(t *testing.T) {
	for _, x := range []struct {
		s    string
		at   int
		end  int
		want api.Tree
	}{
		{"null", 0, 4, api.Tree{}},
		{" \t\r\nnull  ", 0, 8, api.Tree{}},
		{"xtrue#", 1, 5, boolean(1)},
		{"12", 1, 2, number(2)},
		{"1 2", 0, 1, number(1)},
		{"1 2", 1, 3, number(2)},
		{"1-2", 0, 1, number(1)},
		{"1-2", 1, 3, number(-2)},
		{"-1]", 1, 2, number(1)},
		{"1#", 0, 1, number(1)},
		{`"a"b"`, 0, 3, text("a")},
		{`"\x41\/é"`, 0, 10, text("A/é")},
		{"[]]", 0, 2, vec()},
		{"[[1],2]", 1, 4, vec(number(1))},
		{"[ 1 , 2 ]x", 0, 9, vec(number(1), number(2))},
		{"{ }", 0, 3, dict("")},
		{"{ \"b\" : 1 , \"a\" : { } } ", 0, 23, dict("a b", dict(""), number(1))},
		{`{"\x61":1,"A":2}`, 0, 16, dict("A a", number(2), number(1))},
		{"< >", 0, 3, set()},
		{"<2,1>>", 0, 5, set(number(1), number(2))},
		{"<<2,1>,<>,<1>>", 0, 14, set(set(), set(number(1)), set(number(1), number(2)))},
		{"<1,\n[1],\t{},\r\"1\">", 0, 17, set(number(1), text("1"), vec(number(1)), dict(""))},
		{"[1,1,[1],[1]]", 0, 13, vec(number(1), number(1), vec(number(1)), vec(number(1)))},
		{`{"a":1,"b":{"a":1},"c":1}`, 0, 25, dict("a b c", number(1), dict("a", number(1)), number(1))},
	} {
		for _, c := range confs() {
			v, end, err := Take(c, x.s, x.at)
			checkError(t, "Take of "+x.s, err, api.OK, 0)
			checkValue(t, "Take of "+x.s, v, x.want)
			if end != x.end {
				t.Errorf("Take of %q: it ends at %d; want %d", x.s, end, x.end)
			}
		}
		checkAll(t, x.s)
	}
}

// refusal is a text, and the error that it is refused with.
type refusal struct {
	s     string
	code  api.Errno
	place int
}

// refusals are texts that break, each by the error that stands first.
func refusals() []refusal {
	return []refusal{
		{"", api.ErrShort, 0},
		{" \n ", api.ErrShort, 3},
		{"[", api.ErrShort, 1},
		{"[ ", api.ErrShort, 2},
		{"[1", api.ErrShort, 2},
		{"[1,", api.ErrShort, 3},
		{"[1, ", api.ErrShort, 4},
		{"{", api.ErrShort, 1},
		{`{"a"`, api.ErrShort, 4},
		{`{"a":`, api.ErrShort, 5},
		{`{"a": 1`, api.ErrShort, 7},
		{`{"a":1,`, api.ErrShort, 7},
		{"<", api.ErrShort, 1},
		{"<1", api.ErrShort, 2},
		{"<1,", api.ErrShort, 3},
		{"[{}", api.ErrShort, 3},
		{"nul", api.ErrForm, 0},
		{" nulls", api.ErrForm, 1},
		{"Null", api.ErrForm, 0},
		{"TRUE", api.ErrForm, 0},
		{"_", api.ErrForm, 0},
		{"]", api.ErrForm, 0},
		{" }", api.ErrForm, 1},
		{">", api.ErrForm, 0},
		{",1", api.ErrForm, 0},
		{":", api.ErrForm, 0},
		{"(1)", api.ErrForm, 0},
		{"!", api.ErrForm, 0},
		{"..", api.ErrForm, 0},
		{"<=1>", api.ErrForm, 0},
		{"[,1]", api.ErrForm, 1},
		{"[1,,]", api.ErrForm, 3},
		{"[1,]", api.ErrForm, 3},
		{"[1 2]", api.ErrForm, 3},
		{"[1}", api.ErrForm, 2},
		{"[1>", api.ErrForm, 2},
		{"[1:2]", api.ErrForm, 2},
		{"[}", api.ErrForm, 1},
		{"[nil]", api.ErrForm, 1},
		{"[1 null]", api.ErrForm, 3},
		{"[1 \"a\"]", api.ErrForm, 3},
		{"[1 \",\" 2]", api.ErrForm, 3},
		{"[1 \"]\"", api.ErrForm, 3},
		{"{1:2}", api.ErrForm, 1},
		{"{null:2}", api.ErrForm, 1},
		{"{a:2}", api.ErrForm, 1},
		{"{[]:2}", api.ErrForm, 1},
		{"{,}", api.ErrForm, 1},
		{"{]", api.ErrForm, 1},
		{"{:1}", api.ErrForm, 1},
		{`{"a"}`, api.ErrForm, 4},
		{`{"a","b"}`, api.ErrForm, 4},
		{`{"a" 1}`, api.ErrForm, 5},
		{`{"a" ":" 1}`, api.ErrForm, 5},
		{`{"a"::1}`, api.ErrForm, 5},
		{`{"a":}`, api.ErrForm, 5},
		{`{"a":,`, api.ErrForm, 5},
		{`{"a":1,}`, api.ErrForm, 7},
		{`{"a":1,,`, api.ErrForm, 7},
		{`{"a":1,2}`, api.ErrForm, 7},
		{`{"a":1:2}`, api.ErrForm, 6},
		{`{"a":1]`, api.ErrForm, 6},
		{`{"a":1 "b":2}`, api.ErrForm, 7},
		{"<,1>", api.ErrForm, 1},
		{"<1,>", api.ErrForm, 3},
		{"<1]", api.ErrForm, 2},
		{"<1,2>=", api.ErrForm, 4},
		{"<>=", api.ErrForm, 1},
		{"<]", api.ErrForm, 1},
		{"<1:1>", api.ErrForm, 2},
		// what lex.Next tells
		{"#", api.ErrForm, 0},
		{"[1,#]", api.ErrForm, 3},
		{"[1#]", api.ErrForm, 2},
		{"[#", api.ErrForm, 1},
		{"{#", api.ErrForm, 1},
		{`{"a"#`, api.ErrForm, 4},
		{`{"a":#`, api.ErrForm, 5},
		{`{"a":1,#`, api.ErrForm, 7},
		{"[-]", api.ErrForm, 1},
		{"[-0]", api.ErrForm, 1},
		{"[01]", api.ErrForm, 1},
		{"[9223372036854775808]", api.ErrRange, 1},
		{"-9223372036854775809", api.ErrRange, 0},
		{`"a`, api.ErrShort, 2},
		{`["\q"]`, api.ErrForm, 3},
		{"[\"\n\"]", api.ErrForm, 2},
		{`{"a`, api.ErrShort, 3},
		{`{"a":"b`, api.ErrShort, 7},
		{`{"a":1,"\x4`, api.ErrShort, 11},
		// twice
		{`{"a":1,"a":1}`, api.ErrTwice, 7},
		{`{"a":1, "\x61" :1}`, api.ErrTwice, 8},
		{`{"a":1,"b":2,"a"#`, api.ErrTwice, 13},
		{`{"a":1,"a"`, api.ErrTwice, 7},
		{`{"":1,""}`, api.ErrTwice, 6},
		{`{"a":{"b":1,"b":2},"a":1}`, api.ErrTwice, 12},
		{`{"a":1,"a`, api.ErrShort, 9},
		{"<1,1>", api.ErrTwice, 3},
		{"<1,1", api.ErrTwice, 3},
		{"<1, 1#", api.ErrTwice, 4},
		{"<1,2,1,>", api.ErrTwice, 5},
		{"<null,null]", api.ErrTwice, 6},
		{`<"a","\x61">`, api.ErrTwice, 5},
		{"<[1],[ 1 ] x", api.ErrTwice, 5},
		{"<<1,2>,<2,1>>", api.ErrTwice, 7},
		{"<[<>],[<>", api.ErrShort, 9},
		{"<[<>],[<>]", api.ErrTwice, 6},
		{`<{"a":1,"b":2},3,{"b":2,"a":1}>`, api.ErrTwice, 17},
		{"<1,<2,2>,1>", api.ErrTwice, 6},
		{"<1,[1,#", api.ErrForm, 6},
		{"<1,1]", api.ErrTwice, 3},
	}
}

// P14.2: where a text breaks, wherever it stands; none of these goes on ahead of its error.
func TestTakeRefuses(t *testing.T) {
	for _, x := range refusals() {
		for _, ahead := range []string{"", " ", "[1,", `#"` + "\n"} {
			for _, c := range confs() {
				v, end, err := Take(c, ahead+x.s, len(ahead))
				checkError(t, "Take of "+brief(ahead+x.s), err, x.code, len(ahead)+x.place)
				checkValue(t, "Take of "+brief(ahead+x.s), v, api.Tree{})
				if end != 0 {
					t.Errorf("Take of %s: it ends at %d", brief(ahead+x.s), end)
				}
			}
		}
		v, err := Parse(usual(), x.s)
		checkError(t, "Parse of "+brief(x.s), err, x.code, x.place)
		checkValue(t, "Parse of "+brief(x.s), v, api.Tree{})
		if Canon(x.s) {
			t.Errorf("Canon of %s: true", brief(x.s))
		}
		checkAll(t, x.s)
	}
	for _, s := range []string{"", "1", "[1]", "#", `"`} {
		for _, at := range []int{-1, len(s) + 1, math.MinInt, math.MaxInt} {
			v, end, err := Take(usual(), s, at)
			checkError(t, "Take of "+s, err, api.ErrArg, 0)
			if v.Kind() != api.KNull || end != 0 {
				t.Errorf("Take of %s: %s and %d beside an error", s, Encode(v), end)
			}
		}
		v, end, err := Take(usual(), s+" ", len(s)+1)
		checkError(t, "Take of "+s, err, api.ErrShort, len(s)+1)
		if v.Kind() != api.KNull || end != 0 {
			t.Errorf("Take of %s: %s and %d beside an error", s, Encode(v), end)
		}
	}
}

// P14.3.
func TestParse(t *testing.T) {
	for _, x := range []refusal{
		{"1", api.OK, 0},
		{" 1 ", api.OK, 0},
		{"[1]\r\n\t ", api.OK, 0},
		{"1 2", api.ErrMore, 2},
		{"1-2", api.ErrMore, 1},
		{"1,", api.ErrMore, 1},
		{"[]]", api.ErrMore, 2},
		{"[]  []", api.ErrMore, 4},
		{"null null", api.ErrMore, 5},
		{"<>>", api.ErrMore, 2},
		{`""""`, api.ErrMore, 2},
		{"<> >=", api.ErrMore, 3},
		{"1..", api.ErrMore, 1},
		{"1.5", api.ErrMore, 1},
		{"1 #", api.ErrForm, 2},
		{"1#", api.ErrForm, 1},
		{"1=", api.ErrForm, 1},
		{"1 -", api.ErrForm, 2},
		{"1 00", api.ErrForm, 2},
		{"[] 9223372036854775808", api.ErrRange, 3},
		{`null "a`, api.ErrShort, 7},
		{`null "\q`, api.ErrForm, 7},
	} {
		v, err := Parse(usual(), x.s)
		checkError(t, "Parse of "+brief(x.s), err, x.code, x.place)
		if x.code != api.OK {
			checkValue(t, "Parse of "+brief(x.s), v, api.Tree{})
		}
		checkAll(t, x.s)
	}
}

// P14.3, P14.5: texts of values that are not the canonical ones.
func TestCanonRefuses(t *testing.T) {
	for _, s := range []string{
		" 1", "1 ", "1\n", "[1 ]", "[1, 2]", "[ ]", `{"a" :1}`, "< >", `{"b":1,"a":2}`, `{"a\x00":1,"a":2}`,
		"<2,1>", "<1,null>", "<[],1>", `<"b","a">`, "<10,9,-1>", "<[2],[1]>", "[<2,1>]", "<<2,1>>", `{"a":<2,1>}`, "<1,-1>",
		`"\x41"`, `"\/"`, `"\x0a"`, `"\x0A"`, `"\xFF"`, `"é"`, "\"\x7f\"", `"\x22"`, `{"\x41":1}`,
	} {
		if _, err := Parse(usual(), s); err != nil {
			t.Errorf("Parse of %s: %v", brief(s), err)
		}
		if Canon(s) {
			t.Errorf("Canon of %s: true", brief(s))
		}
		checkRead(t, s)
	}
}

// P14.3: at most MaxText bytes are parsed, whatever they are; Take, and Canon, are not held to this.
func TestMaxText(t *testing.T) {
	const most = 1 << 20
	for _, x := range []refusal{
		{`"` + strings.Repeat("a", most-2) + `"`, api.OK, 0},
		{strings.Repeat(" ", most-2) + "[]", api.OK, 0},
		{"[]" + strings.Repeat(" ", most-2), api.OK, 0},
		{"[]" + strings.Repeat(" ", most-3) + "]", api.ErrMore, most - 1},
		{strings.Repeat(" ", most), api.ErrShort, most},
		{`"` + strings.Repeat("a", most-1), api.ErrShort, most},
		{`"` + strings.Repeat("a", most-1) + `"`, api.ErrMany, 0},
		{`"` + strings.Repeat("a", most), api.ErrMany, 0},
		{strings.Repeat(" ", most-1) + "[]", api.ErrMany, 0},
		{"[]" + strings.Repeat(" ", most-1), api.ErrMany, 0},
		{strings.Repeat("#", most+1), api.ErrMany, 0},
		{strings.Repeat("[", most+1), api.ErrMany, 0},
		{strings.Repeat(" ", most+1), api.ErrMany, 0},
		{"1 " + strings.Repeat("2", most), api.ErrMany, 0},
	} {
		v, err := Parse(usual(), x.s)
		checkError(t, "Parse of "+brief(x.s), err, x.code, x.place)
		if x.code != api.OK && v.Key() != "\x01" {
			t.Errorf("Parse of %s: %s beside an error", brief(x.s), brief(Encode(v)))
		}
		checkRead(t, x.s)
	}
	long := text(strings.Repeat("\xff", most))
	for _, x := range []api.Tree{long, vec(long), dict("a", long), set(number(1), long)} {
		s := Encode(of(t, usual(), x))
		if v, end, err := Take(usual(), s, 0); err != nil || end != len(s) || v.Key() != keyOf(x) || !Canon(s) {
			t.Errorf("Take of %s: it ends at %d; %v", brief(s), end, err)
		}
		if Canon(s + " ") {
			t.Errorf("Canon of %s with a blank behind: true", brief(s))
		}
		_, err := Parse(usual(), s)
		checkError(t, "Parse of "+brief(s), err, api.ErrMany, 0)
	}
}

// nested is so many values of these signs, each in the one ahead, and at the innermost place x.
func nested(n int, begin, x, end string) string {
	return strings.Repeat(begin, n) + x + strings.Repeat(end, n)
}

// P14.2: MaxDepth, told when the first token of a value has been read.
func TestMaxDepth(t *testing.T) {
	for _, signs := range [][2]string{{"[", "]"}, {"<", ">"}, {`{"a":`, "}"}, {`{"b": `, "}"}} {
		begin, end := signs[0], signs[1]
		n := len(begin)
		for _, x := range []refusal{
			{nested(63, begin, "1", end), api.OK, 0},
			{nested(63, begin, "[]", end), api.OK, 0},
			{nested(63, begin, "{}", end), api.OK, 0},
			{nested(63, begin, "<>", end), api.OK, 0},
			{nested(64, begin, "1", end), api.ErrDepth, 64 * n},
			{nested(64, begin, " null", end), api.ErrDepth, 64*n + 1},
			{nested(64, begin, `"a"`, end), api.ErrDepth, 64 * n},
			{nested(64, begin, "[]", end), api.ErrDepth, 64 * n},
			{nested(64, begin, "{", ""), api.ErrDepth, 64 * n},
			{nested(64, begin, "<#", ""), api.ErrDepth, 64 * n},
			{nested(64, begin, "1 1", ""), api.ErrDepth, 64 * n},
			{nested(64, begin, "1#", ""), api.ErrDepth, 64 * n},
			{nested(1000, begin, "1", end), api.ErrDepth, 64 * n},
			{nested(64, begin, "nil", end), api.ErrForm, 64 * n},
			{nested(64, begin, ",", end), api.ErrForm, 64 * n},
			{nested(64, begin, "#", end), api.ErrForm, 64 * n},
			{nested(64, begin, "00", end), api.ErrForm, 64 * n},
			{nested(64, begin, "99999999999999999999", end), api.ErrRange, 64 * n},
			{nested(64, begin, "", ""), api.ErrShort, 64 * n},
		} {
			v, err := Parse(usual(), x.s)
			checkError(t, "Parse of "+brief(x.s), err, x.code, x.place)
			if x.code == api.OK && v.Depth() != 64 {
				t.Errorf("Parse of %s: it is %d deep", brief(x.s), v.Depth())
			}
			checkRead(t, x.s)
		}
	}
	for _, x := range []refusal{
		{nested(64, "[", "", "]"), api.OK, 0},
		{nested(64, "<", "", ">"), api.OK, 0},
		{nested(63, "[", `{"a"`, ""), api.ErrShort, 67},
		{nested(63, "[", `{"a":1}`, "]"), api.ErrDepth, 68},
		{nested(63, "[", `{"a":}`, "]"), api.ErrForm, 68},
		{nested(63, "[", "[],[1]", "]"), api.ErrDepth, 67},
		{"[" + nested(63, "[", "", "]") + "," + nested(63, "[", "", "]") + "]", api.OK, 0},
		{"[" + nested(63, "[", "", "]") + "," + nested(63, "[", "1", "]") + "]", api.ErrDepth, 191},
		{nested(32, `[{"a":`, "1", "}]"), api.ErrDepth, 192},
		{nested(31, `[<`, "[1]", ">]"), api.OK, 0},
	} {
		v, err := Parse(usual(), x.s)
		checkError(t, "Parse of "+brief(x.s), err, x.code, x.place)
		if x.code == api.OK && v.Depth() != 64 {
			t.Errorf("Parse of %s: it is %d deep", brief(x.s), v.Depth())
		}
		checkRead(t, x.s)
	}
}

// list is the texts of the numbers below n, with a sign ahead, commas between, and each with something ahead.
func list(begin, ahead string, n int) string {
	var b strings.Builder
	b.WriteString(begin)
	for i := range n {
		if i > 0 {
			b.WriteString(",")
		}
		b.WriteString(strings.ReplaceAll(ahead, "#", strconv.Itoa(10000+i)))
		b.WriteString(strconv.Itoa(10000 + i))
	}
	return b.String()
}

// P14.2: MaxNodes, told when the first token of a value has been read; keys are no values.
func TestMaxNodes(t *testing.T) {
	const most = 1 << 14
	for _, kind := range [][3]string{{"[", "", "]"}, {"<", "", ">"}, {"{", `"#":`, "}"}} {
		begin, ahead, end := kind[0], kind[1], kind[2]
		full := list(begin, ahead, most-1)
		next := "," + strings.ReplaceAll(ahead, "#", "a") // here one more value may begin
		at := len(full) + len(next)
		for _, x := range []refusal{
			{full + end, api.OK, 0},
			{full + next + "1" + end, api.ErrNodes, at},
			{full + next + " 1#", api.ErrNodes, at + 1},
			{full + next + "[]", api.ErrNodes, at},
			{full + next + "[1", api.ErrNodes, at},
			{full + next + "10001", api.ErrNodes, at},
			{full + next + "#", api.ErrForm, at},
			{full + next + "nil", api.ErrForm, at},
			{full + next + end, api.ErrForm, at},
			{full + next, api.ErrShort, at},
			{full, api.ErrShort, len(full)},
		} {
			v, err := Parse(usual(), x.s)
			checkError(t, "Parse of "+brief(x.s), err, x.code, x.place)
			if x.code == api.OK && (v.Nodes() != most || v.Len() != most-1 || Encode(v) != x.s || !Canon(x.s)) {
				t.Errorf("Parse of %s: %d nodes", brief(x.s), v.Nodes())
			}
		}
	}
	deep := strings.Repeat("[", 62) + list("[", "", most-64) // at depth 64 one more value may begin, but none in it at depth 65
	for _, x := range []refusal{
		{deep + ",1" + strings.Repeat("]", 63), api.OK, 0},
		{deep + ",1,1", api.ErrNodes, len(deep) + 3},
		{deep + ",[1", api.ErrDepth, len(deep) + 2},
		{deep + ",1,[1", api.ErrNodes, len(deep) + 3},
		{deep + ",[]" + strings.Repeat("]", 62) + "x", api.ErrForm, len(deep) + 3 + 62},
		{deep + ",[]],1", api.ErrNodes, len(deep) + 5},
	} {
		_, err := Parse(usual(), x.s)
		checkError(t, "Parse of "+brief(x.s), err, x.code, x.place)
	}
	twice := list("{", `"#":`, most-1)
	_, err := Parse(usual(), twice+`,"10000"`)
	checkError(t, "Parse of a key twice", err, api.ErrTwice, len(twice)+1)
}

// P14.2: it is built with c; vectors, which have no shape of their own, are left out here.
func TestConf(t *testing.T) {
	tree := dict("b a c", set(number(2), number(1), dict("x y", set(), text("z"))), api.Tree{}, dict(""))
	for i, c := range confs() {
		v, err := Parse(c, textOf(tree))
		if err != nil {
			t.Fatal(err)
		}
		for k, d := range confs() {
			if reflect.DeepEqual(v, of(t, d, tree)) != (i == k) {
				t.Errorf("what is read by %+v, and what is built by %+v: the same: %v", c, d, i != k)
			}
		}
	}
}

// P14.2, P14.3: all short texts of some pieces.
func TestAllShortTexts(t *testing.T) {
	for _, some := range []struct {
		pieces string
		most   int
	}{
		{`null true 1 "a" "b" [ ] { } < > , : # x`, 4},
		{`1 [ ] ,`, 7},
		{`"a" { } : , 1`, 6},
		{`{"a": , } "b": 1 <`, 6},
		{`1 2 < > ,`, 6},
		{`<1,2> <2,1> < > ,`, 6},
	} {
		pieces := append(strings.Fields(some.pieces), " ")
		texts := []string{""}
		for range some.most {
			var longer []string
			for _, s := range texts {
				for _, p := range pieces {
					longer = append(longer, s+p)
				}
			}
			for _, s := range longer {
				checkRead(t, s)
			}
			texts = longer
		}
	}
}

// blanks are some, at least that many.
func blanks(draw func(n int) int, least int) string {
	s := ""
	for range least + draw(3) {
		s += " \t\n\r"[draw(4):][:1]
	}
	return s
}

// spread is the tokens of s, as they stand there, with blanks between and at both ends; where in it the places of s lie.
func spread(draw func(n int) int, s string, tokens []api.Token) (string, map[int]int) {
	var b strings.Builder
	places := map[int]int{}
	for _, x := range tokens {
		b.WriteString(blanks(draw, 1))
		places[x.At] = b.Len()
		b.WriteString(s[x.At:x.End])
	}
	b.WriteString(blanks(draw, 0))
	places[len(s)] = b.Len()
	return b.String(), places
}

// changed is s with a change that mostly breaks it.
func changed(draw func(n int) int, s string) string {
	at := draw(len(s) + 1)
	pieces := []string{",", ":", "[", "]", "{", "}", "<", ">", "1", `"a"`, "null", " ", `"`, "#", "-", "<2,1>"}
	piece := pieces[draw(len(pieces))]
	switch draw(4) {
	case 0:
		return s[:at]
	case 1:
		return s[:at] + piece + s[at:]
	case 2:
		return s[:at] + piece + s[min(at+1, len(s)):]
	}
	return s[:at] + s[min(at+1+draw(3), len(s)):]
}

// P14.2 to P14.6, of values that are drawn, and of their texts once these are changed.
func TestDrawn(t *testing.T) {
	draw := drawer()
	conf := confs()
	for i := range 3000 {
		tree := drawn(draw, 1+i%6)
		s := textOf(canonical(tree))
		v := of(t, conf[i%len(conf)], tree)
		if got := Encode(v); got != s || !Canon(got) {
			t.Fatalf("Encode of %+v: %s; want %s", tree, got, s)
		}
		again, err := Parse(conf[draw(len(conf))], s)
		if err != nil || again.Key() != v.Key() {
			t.Fatalf("Parse of %s: %s, %v", s, Encode(again), err)
		}
		for _, s := range []string{textOf(tree), changed(draw, textOf(tree)), changed(draw, s), changed(draw, changed(draw, s))} {
			checkRead(t, s)
			checkTake(t, s, draw(len(s)+1))
			checkSpread(t, draw, s)
		}
	}
}

// P14.6: s with blanks between its tokens comes to the same, but for places.
func checkSpread(t *testing.T, draw func(n int) int, s string) {
	t.Helper()
	tokens, err := lex.All(s)
	if err != nil {
		return
	}
	wide, places := spread(draw, s, tokens)
	v, end, err := Take(usual(), s, 0)
	again, wideEnd, wideErr := Take(usual(), wide, 0)
	if again.Key() != v.Key() || fault.Code(err) != fault.Code(wideErr) {
		t.Fatalf("Take of %q: %s, %v; but of %q: %s, %v", s, Encode(v), err, wide, Encode(again), wideErr)
	}
	if at, is := fault.Last(err); is {
		wideAt, _ := fault.Last(wideErr)
		if wideAt != places[at] {
			t.Errorf("Take of %q: %v; but of %q: %v", s, err, wide, wideErr)
		}
	} else if strings.TrimSpace(wide[:wideEnd]) == "" || wide[wideEnd-1] != s[end-1] {
		t.Errorf("Take of %q ends at %d, of %q at %d", s, end, wide, wideEnd)
	}
	_, err = Parse(usual(), s)
	_, wideErr = Parse(usual(), wide)
	if fault.Code(err) != fault.Code(wideErr) {
		t.Errorf("Parse of %q: %v; but of %q: %v", s, err, wide, wideErr)
	}
}

// P14.4: what is encoded is read, whatever stands ahead and behind that its last token can't go on with.
func TestThereAndBack(t *testing.T) {
	for _, x := range examples() {
		last := x.text[len(x.text)-1]
		for c := range 256 {
			b := string([]byte{byte(c)})
			switch letter := b == "_" || b >= "a" && b <= "z" || b >= "A" && b <= "Z"; {
			case b >= "0" && b <= "9" && strings.IndexByte("elu0123456789", last) >= 0:
				continue // a number or a name goes on
			case letter && (x.text == "null" || x.text == "true" || x.text == "false"):
				continue // a name goes on
			case b == "=" && last == '>':
				continue // it is another sign
			}
			for _, rest := range []string{b, b + b, b + x.text, b + "1"} {
				v, end, err := Take(usual(), b+x.text+rest, 1)
				if err != nil || end != 1+len(x.text) || v.Key() != keyOf(x.tree) {
					t.Errorf("Take of %q: %s up to %d, %v", b+x.text+rest, Encode(v), end, err)
				}
			}
		}
	}
}

// P14.5: values that are the same, and they alone, have one text.
func TestOneForm(t *testing.T) {
	draw := drawer()
	var trees []api.Tree
	for _, x := range examples() {
		trees = append(trees, x.tree)
	}
	for i := range 400 {
		trees = append(trees, drawn(draw, 1+i%3))
	}
	texts, keys := map[string]string{}, map[string]string{}
	for i, x := range trees {
		v := of(t, confs()[i%len(confs())], x)
		s, k := Encode(v), v.Key()
		if other, is := texts[k]; is && other != s {
			t.Errorf("one value, and two texts: %s and %s", s, other)
		}
		if other, is := keys[s]; is && other != k {
			t.Errorf("two values, and one text: %s", s)
		}
		texts[k], keys[s] = s, k
	}
	if len(texts) < 100 {
		t.Errorf("only %d values were drawn", len(texts))
	}
}

// P1, R3, R4: the same is answered once more, whatever was done to what was answered.
func TestAnswersAreNew(t *testing.T) {
	const s = `{"a":<1,[2]>,"b":[3]}`
	for range 3 {
		v, err := Parse(usual(), s)
		if err != nil || Encode(v) != s {
			t.Fatalf("Parse: %s, %v", Encode(v), err)
		}
		tree := v.Tree()
		tree.Keys[0], tree.Items[0].Items[0].Int = "z", 9
		less, code := v.Cut(api.Step{Kind: api.StKey, Text: "a"})
		if code != api.OK || Encode(less) != `{"b":[3]}` || Encode(v) != s {
			t.Errorf("Cut: %s of %s, %v", Encode(less), Encode(v), code)
		}
		_, _, broke := Take(usual(), "[1,,]", 0)
		checkError(t, "Take of [1,,]", broke, api.ErrForm, 3)
		if f, is := broke.(*fault.Fault); is {
			f.At, f.Under = 99, nil
		}
	}
}

// Bound: no text takes long, however its values lie within one another, and however their keys' sums fall together.
func TestBound(t *testing.T) {
	long := strings.Repeat("a", 1<<19)
	for _, s := range []string{
		nested(63, "<", `"`+long+`"`, ">"),
		nested(40, "<1,", "<>", ">"),
		list("<", "", 1<<13) + ">",
		list("{", `"#":`, 1<<13) + "}",
		"<" + list("[", "", 1<<12) + "]," + list("[0,", "", 1<<12) + "]>",
	} {
		for _, c := range []api.Conf{usual(), {Bits: 0}} {
			if v, err := Parse(c, s); err != nil || v.Nodes() < 64 {
				t.Errorf("Parse of %s: %v", brief(s), err)
			}
		}
	}
}

// Ways: a text that breaks is left by a panic that is recovered where it is read; what begins a value is asked by a switch whose cases fall through. Codec stands on no other packages of the project than its chapter says.
func TestWays(t *testing.T) {
	file, err := parser.ParseFile(token.NewFileSet(), "codec.go", nil, 0)
	if err != nil {
		t.Fatal(err)
	}
	ways := map[string]bool{}
	for _, d := range file.Decls {
		f, ok := d.(*ast.FuncDecl)
		if !ok {
			continue
		}
		ast.Inspect(f, func(n ast.Node) bool {
			switch n := n.(type) {
			case *ast.BranchStmt:
				ways[f.Name.Name+" "+n.Tok.String()] = true
			case *ast.DeferStmt:
				ways[f.Name.Name+" defer"] = true
			case *ast.CallExpr:
				if name, ok := n.Fun.(*ast.Ident); ok && (name.Name == "panic" || name.Name == "recover") {
					ways[f.Name.Name+" "+name.Name] = true
				}
			}
			return true
		})
	}
	for _, way := range []string{"Take defer", "Take recover", "leave panic", "begun fallthrough"} {
		if !ways[way] {
			t.Errorf("there is none: %s", way)
		}
	}
	for _, i := range file.Imports {
		if path, _ := strconv.Unquote(i.Path.Value); strings.HasPrefix(path, "placket/") && !slices.Contains([]string{"api", "fault", "lex", "num", "quote", "value"}, path[len("placket/"):]) {
			t.Errorf("codec does not stand on %s", path)
		}
	}
}
