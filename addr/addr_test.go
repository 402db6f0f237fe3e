package addr

import (
	"go/ast"
	"go/parser"
	"go/token"
	"math"
	"slices"
	"strconv"
	"strings"
	"testing"

	"placket/api"
	"placket/codec"
	"placket/fault"
	"placket/value"
)

// usual is how values are built where nothing else is asked for.
func usual() api.Conf { return api.Conf{Seed: 7, Bits: 64} }

func confs() []api.Conf {
	return []api.Conf{usual(), {}, {Seed: 1, Bits: 1}, {Seed: 2, Bits: 5}, {Seed: math.MaxUint64, Bits: 63}, {Bits: -1}, {Bits: 65}}
}

func toItem(n int) api.Step { return api.Step{Kind: api.StIndex, Int: n} }

func toKey(s string) api.Step { return api.Step{Kind: api.StKey, Text: s} }

func toMember(k string) api.Step { return api.Step{Kind: api.StMember, Text: k} }

// steps is a list of them.
func steps(l ...api.Step) []api.Step { return l }

// zeros is n steps to the first item.
func zeros(n int) []api.Step { return make([]api.Step, n) }

// read is the value of which s is the text, built with c.
func read(t *testing.T, c api.Conf, s string) value.Value {
	t.Helper()
	v, err := codec.Parse(c, s)
	if err != nil {
		t.Fatalf("Parse of %s: %v", brief(s), err)
	}
	return v
}

// keyOfText is the key of the value of which s is the text.
func keyOfText(t *testing.T, s string) string {
	t.Helper()
	return read(t, usual(), s).Key()
}

func of(t *testing.T, c api.Conf, x api.Tree) value.Value {
	t.Helper()
	v, err := value.Of(c, x)
	if err != api.OK {
		t.Fatalf("Of %+v: %v", x, err)
	}
	return v
}

// brief is s, or its ends, if it is long.
func brief(s string) string {
	if len(s) < 200 {
		return strconv.Quote(s)
	}
	return strconv.Quote(s[:40]) + " .. " + strconv.Quote(s[len(s)-40:])
}

// shown tells an address for a failure, whatever its steps have.
func shown(a []api.Step) string {
	var b strings.Builder
	for _, s := range a[:min(len(a), 8)] {
		b.WriteString("(" + strconv.Itoa(s.Kind) + " " + strconv.Itoa(s.Int) + " " + brief(s.Text) + ")")
	}
	return strconv.Itoa(len(a)) + " steps " + b.String()
}

// checkError holds an error against the number and the place that it must have: nil of OK, else one Fault under which is the Errno itself.
func checkError(t *testing.T, call string, err error, code api.Errno, place int) {
	t.Helper()
	if code == api.OK {
		if err != nil {
			t.Errorf("%s: %v", call, err)
		}
		return
	}
	f, is := err.(*fault.Fault)
	if !is || f == nil {
		t.Fatalf("%s: %v, which is no Fault; want %d at %d", call, err, code, place)
	}
	if under, is := f.Under.(api.Errno); !is || under != code || f.At != place {
		t.Errorf("%s: %v; want %d at %d", call, err, code, place)
	}
}

// checkText holds a value against its text.
func checkText(t *testing.T, call string, v value.Value, want string) {
	t.Helper()
	if s := codec.Encode(v); s != want {
		t.Errorf("%s: %s; want %s", call, brief(s), brief(want))
	}
}

// do asks the call of that name; Cut does not look at x.
func do(name string, v value.Value, a []api.Step, x value.Value) (value.Value, error) {
	switch name {
	case doPut:
		return Put(v, a, x)
	case doInsert:
		return Insert(v, a, x)
	case doCut:
		return Cut(v, a)
	}
	return Add(v, a, x)
}

func changes() []string { return []string{doPut, doInsert, doCut, doAdd} }

// trial is a value's text, an address in it, and what is to come of that: a text, or an error's number and place.
type trial struct {
	v     string
	a     []api.Step
	x     string
	want  string
	code  api.Errno
	place int
}

// checkTrials asks the call of that name by each Conf.
func checkTrials(t *testing.T, name string, l []trial) {
	t.Helper()
	for _, x := range l {
		for _, c := range confs() {
			checkTrial(t, name, c, x)
		}
	}
}

func checkTrial(t *testing.T, name string, c api.Conf, x trial) {
	t.Helper()
	if x.x == "" {
		x.x = "null"
	}
	if x.code != api.OK {
		x.want = "null"
	}
	call := name + " of " + brief(x.v) + " at " + shown(x.a) + " with " + brief(x.x)
	v, a := read(t, c, x.v), slices.Clone(x.a)
	before := codec.Encode(v)
	got, err := do(name, v, a, read(t, usual(), x.x))
	checkError(t, call, err, x.code, x.place)
	checkText(t, call, got, x.want)
	checkText(t, call+": what was asked", v, before)
	if !slices.Equal(a, x.a) {
		t.Errorf("%s: the address is %s then", call, shown(a))
	}
}

// P15.1.
func TestGet(t *testing.T) {
	one := keyOfText(t, "1")
	inner := keyOfText(t, "<1>")
	for _, x := range []trial{
		{v: "null", want: "null"},
		{v: "[1,[2]]", want: "[1,[2]]"},
		{v: "<1>", a: steps(), want: "<1>"},
		{v: "[1,[2]]", a: steps(toItem(0)), want: "1"},
		{v: "[1,[2]]", a: steps(toItem(1)), want: "[2]"},
		{v: "[1,[2]]", a: steps(toItem(1), toItem(0)), want: "2"},
		{v: `{"a":{"":[5]}}`, a: steps(toKey("a"), toKey(""), toItem(0)), want: "5"},
		{v: "<1,<1>>", a: steps(toMember(one)), want: "1"},
		{v: "<1,<1>>", a: steps(toMember(inner)), want: "<1>"},
		{v: "<1,<1>>", a: steps(toMember(inner), toMember(one)), want: "1"},
		{v: `[<{"a":[7]}>]`, a: steps(toItem(0), toMember(keyOfText(t, `{"a":[7]}`)), toKey("a"), toItem(0)), want: "7"},
		{v: `[1]`, a: steps(api.Step{Kind: api.StIndex, Text: "x"}), want: "1"},
		{v: `{"a":1}`, a: steps(api.Step{Kind: api.StKey, Int: 5, Text: "a"}), want: "1"},
		{v: `<1>`, a: steps(api.Step{Kind: api.StMember, Int: -5, Text: one}), want: "1"},
		{v: "[1]", a: steps(toItem(1)), code: api.ErrNone, place: 0},
		{v: "[1]", a: steps(toItem(-1)), code: api.ErrNone, place: 0},
		{v: "[]", a: steps(toItem(0)), code: api.ErrNone, place: 0},
		{v: "[1]", a: steps(toItem(math.MaxInt)), code: api.ErrNone, place: 0},
		{v: "[1]", a: steps(toItem(math.MinInt)), code: api.ErrNone, place: 0},
		{v: `{"a":1}`, a: steps(toKey("b")), code: api.ErrNone, place: 0},
		{v: `{"a":1}`, a: steps(toKey("")), code: api.ErrNone, place: 0},
		{v: "<1>", a: steps(toMember(inner)), code: api.ErrNone, place: 0},
		{v: "<1>", a: steps(toMember("")), code: api.ErrNone, place: 0},
		{v: "<1>", a: steps(toMember("1")), code: api.ErrNone, place: 0},
		{v: "null", a: steps(toItem(0)), code: api.ErrKind, place: 0},
		{v: `"abc"`, a: steps(toItem(0)), code: api.ErrKind, place: 0},
		{v: "[1]", a: steps(toKey("0")), code: api.ErrKind, place: 0},
		{v: "[1]", a: steps(toMember(one)), code: api.ErrKind, place: 0},
		{v: `{"a":1}`, a: steps(toItem(0)), code: api.ErrKind, place: 0},
		{v: "<1>", a: steps(toItem(0)), code: api.ErrKind, place: 0},
		{v: "<1>", a: steps(toKey(one)), code: api.ErrKind, place: 0},
		{v: "[1]", a: steps(api.Step{Kind: 3}), code: api.ErrArg, place: 0},
		{v: "null", a: steps(api.Step{Kind: -1}), code: api.ErrArg, place: 0},
		{v: "[1,[2]]", a: steps(toItem(1), toItem(1)), code: api.ErrNone, place: 1},
		{v: "[1,[2]]", a: steps(toItem(0), toItem(0)), code: api.ErrKind, place: 1},
		{v: "[1,[2]]", a: steps(toItem(1), toItem(0), toKey("a")), code: api.ErrKind, place: 2},
		{v: "[1,[2]]", a: steps(toItem(1), toItem(0), api.Step{Kind: 9}), code: api.ErrArg, place: 2},
		{v: "[1,[2]]", a: steps(toItem(2), api.Step{Kind: 9}), code: api.ErrNone, place: 0},
		{v: "<1,<1>>", a: steps(toMember(inner), toMember(inner)), code: api.ErrNone, place: 1},
		{v: "<1,<1>>", a: steps(toMember(one), toMember(one)), code: api.ErrKind, place: 1},
		{v: strings.Repeat("[", 64) + strings.Repeat("]", 64), a: zeros(63), want: "[]"},
		{v: strings.Repeat("[", 64) + strings.Repeat("]", 64), a: zeros(64), code: api.ErrNone, place: 63},
		{v: strings.Repeat("[", 63) + "1" + strings.Repeat("]", 63), a: zeros(1 << 16), code: api.ErrKind, place: 63},
	} {
		if x.code != api.OK {
			x.want = "null"
		}
		for _, c := range confs() {
			call := "Get of " + brief(x.v) + " at " + shown(x.a)
			v, err := Get(read(t, c, x.v), x.a)
			checkError(t, call, err, x.code, x.place)
			checkText(t, call, v, x.want)
		}
	}
}

// P15.2: with any of the calls, what goes wrong on the way down to what the call is done to.
func TestOnTheWayDown(t *testing.T) {
	vec, one := keyOfText(t, "[1]"), keyOfText(t, "1")
	for _, x := range []trial{
		{v: "[1]", a: steps(toItem(1), toItem(0)), code: api.ErrNone, place: 0},
		{v: "[1]", a: steps(toItem(-1), toItem(0)), code: api.ErrNone, place: 0},
		{v: `{"a":[1]}`, a: steps(toKey("b"), toItem(0)), code: api.ErrNone, place: 0},
		{v: "[[1]]", a: steps(toKey(""), toItem(0)), code: api.ErrKind, place: 0},
		{v: "5", a: steps(toItem(0), toItem(0)), code: api.ErrKind, place: 0},
		{v: "[[1]]", a: steps(api.Step{Kind: 3}, toItem(0)), code: api.ErrArg, place: 0},
		{v: "[[[1]]]", a: steps(toItem(0), toItem(1), toItem(0)), code: api.ErrNone, place: 1},
		{v: "[[[1]]]", a: steps(toItem(0), toMember(one), toItem(0)), code: api.ErrKind, place: 1},
		{v: "[[1]]", a: steps(toItem(0), toItem(0), toItem(0), toItem(0)), code: api.ErrKind, place: 2},
		{v: "[[[1]]]", a: steps(toItem(0), api.Step{Kind: 4}, toItem(0)), code: api.ErrArg, place: 1},
		{v: "[[[1]]]", a: steps(toItem(1), api.Step{Kind: 4}, toItem(0)), code: api.ErrNone, place: 0},
		// beneath a set nothing is changed
		{v: "<[1]>", a: steps(toMember(vec), toItem(0)), code: api.ErrSet, place: 0},
		{v: "<[1]>", a: steps(toMember(vec), toItem(7)), code: api.ErrSet, place: 0},
		{v: "<[1]>", a: steps(toMember(vec), toKey("a"), toItem(0)), code: api.ErrSet, place: 0},
		{v: "<[1]>", a: steps(toMember(vec), api.Step{Kind: 9}), code: api.ErrSet, place: 0},
		{v: "<[1]>", a: steps(toMember(one), toItem(0)), code: api.ErrNone, place: 0},
		{v: "<[1]>", a: steps(toItem(0), toItem(0)), code: api.ErrKind, place: 0},
		{v: "<[1]>", a: steps(api.Step{Kind: 5}, toItem(0)), code: api.ErrArg, place: 0},
		{v: `{"a":[<[1]>]}`, a: steps(toKey("a"), toItem(0), toMember(vec), toItem(0)), code: api.ErrSet, place: 2},
		{v: "<<[1]>>", a: steps(toMember(keyOfText(t, "<[1]>")), toMember(vec), toItem(0)), code: api.ErrSet, place: 0},
		{v: "<<[1]>>", a: steps(toMember(keyOfText(t, "<[1]>")), toMember(one), toItem(0)), code: api.ErrSet, place: 0},
	} {
		for _, name := range changes() {
			checkTrials(t, name, []trial{x})
		}
	}
}

// P15.2: Put.
func TestPut(t *testing.T) {
	one := keyOfText(t, "1")
	checkTrials(t, doPut, []trial{
		{v: "[1]", x: "<2>", want: "<2>"},
		{v: "null", a: steps(), x: "{}", want: "{}"},
		{v: "<1>", x: "5", want: "5"},
		{v: "[[1]]", a: steps(toItem(0), toItem(0)), x: "2", want: "[[2]]"},
		{v: "[1,2,3]", a: steps(toItem(1)), x: "[]", want: "[1,[],3]"},
		{v: "[1,2,3]", a: steps(toItem(2)), x: "[1,2,3]", want: "[1,2,[1,2,3]]"},
		{v: "[1]", a: steps(api.Step{Text: "x"}), x: "2", want: "[2]"},
		{v: `{"a":1}`, a: steps(toKey("a")), x: "2", want: `{"a":2}`},
		{v: `{"b":1}`, a: steps(toKey("a")), x: "2", want: `{"a":2,"b":1}`},
		{v: "{}", a: steps(toKey("")), x: "{}", want: `{"":{}}`},
		{v: `{"a":1}`, a: steps(api.Step{Kind: api.StKey, Int: 3, Text: "b"}), x: "2", want: `{"a":1,"b":2}`},
		{v: `[{"a":[1,{"b":0}]},9]`, a: steps(toItem(0), toKey("a"), toItem(1), toKey("c")), x: "<>", want: `[{"a":[1,{"b":0,"c":<>}]},9]`},
		{v: `[1,<2>]`, a: steps(toItem(1)), x: "<3>", want: "[1,<3>]"},
		{v: "[1]", a: steps(toItem(1)), x: "2", code: api.ErrNone, place: 0},
		{v: "[1]", a: steps(toItem(-1)), x: "2", code: api.ErrNone, place: 0},
		{v: "[[1]]", a: steps(toItem(0), toItem(1)), x: "2", code: api.ErrNone, place: 1},
		{v: "[1]", a: steps(toKey("a")), x: "2", code: api.ErrKind, place: 0},
		{v: "1", a: steps(toItem(0)), x: "2", code: api.ErrKind, place: 0},
		{v: `{"a":1}`, a: steps(toItem(0)), x: "2", code: api.ErrKind, place: 0},
		{v: `{"a":1}`, a: steps(toKey("a"), toKey("b")), x: "2", code: api.ErrKind, place: 1},
		{v: "[1]", a: steps(api.Step{Kind: 3}), x: "2", code: api.ErrArg, place: 0},
		{v: "[[1]]", a: steps(toItem(0), api.Step{Kind: -3}), x: "2", code: api.ErrArg, place: 1},
		{v: "<1>", a: steps(toMember(one)), x: "2", code: api.ErrSet, place: 0},
		{v: "<1>", a: steps(toMember(one)), x: "1", code: api.ErrSet, place: 0},
		{v: "<1>", a: steps(toMember("x")), x: "2", code: api.ErrSet, place: 0},
		{v: "<1>", a: steps(toItem(0)), x: "2", code: api.ErrKind, place: 0},
		{v: "[<1>]", a: steps(toItem(0), toMember(one)), x: "2", code: api.ErrSet, place: 1},
	})
}

// P15.2: Insert.
func TestInsert(t *testing.T) {
	one := keyOfText(t, "1")
	checkTrials(t, doInsert, []trial{
		{v: "[]", a: steps(toItem(0)), x: "[]", want: "[[]]"},
		{v: "[1,2]", a: steps(toItem(0)), x: "3", want: "[3,1,2]"},
		{v: "[1,2]", a: steps(toItem(1)), x: "3", want: "[1,3,2]"},
		{v: "[1,2]", a: steps(toItem(2)), x: "3", want: "[1,2,3]"},
		{v: "[1,2]", a: steps(api.Step{Int: 2, Text: "x"}), x: "3", want: "[1,2,3]"},
		{v: `{"a":[[1],2]}`, a: steps(toKey("a"), toItem(0), toItem(1)), x: "3", want: `{"a":[[1,3],2]}`},
		{v: "[1,2]", a: steps(toItem(3)), x: "3", code: api.ErrRange, place: 0},
		{v: "[1,2]", a: steps(toItem(-1)), x: "3", code: api.ErrRange, place: 0},
		{v: "[1,2]", a: steps(toItem(math.MaxInt)), x: "3", code: api.ErrRange, place: 0},
		{v: "[[1]]", a: steps(toItem(0), toItem(2)), x: "3", code: api.ErrRange, place: 1},
		{v: "[[1]]", a: steps(toItem(1), toItem(0)), x: "3", code: api.ErrNone, place: 0},
		{v: "5", a: steps(toItem(9)), x: "3", code: api.ErrKind, place: 0},
		{v: "{}", a: steps(toItem(0)), x: "3", code: api.ErrKind, place: 0},
		{v: "<>", a: steps(toItem(0)), x: "3", code: api.ErrKind, place: 0},
		{v: "[[1]]", a: steps(toItem(0), toItem(0), toItem(0)), x: "3", code: api.ErrKind, place: 2},
		{v: "{}", a: steps(toKey("a")), x: "3", code: api.ErrKind, place: 0},
		{v: "[]", a: steps(toKey("0")), x: "3", code: api.ErrKind, place: 0},
		{v: "[]", a: steps(api.Step{Kind: 3}), x: "3", code: api.ErrKind, place: 0},
		{v: "<1>", a: steps(toMember(one)), x: "3", code: api.ErrKind, place: 0},
		{v: "[{}]", a: steps(toItem(0), toKey("a")), x: "3", code: api.ErrKind, place: 1},
		{v: "[]", x: "3", code: api.ErrEdge, place: 0},
		{v: "null", a: steps(), x: "3", code: api.ErrEdge, place: 0},
	})
}

// P15.2: Cut.
func TestCut(t *testing.T) {
	one, inner := keyOfText(t, "1"), keyOfText(t, "<1>")
	checkTrials(t, doCut, []trial{
		{v: "[1]", a: steps(toItem(0)), want: "[]"},
		{v: "[1,2,3]", a: steps(toItem(1)), want: "[1,3]"},
		{v: "[1,2,3]", a: steps(api.Step{Int: 2, Text: "x"}), want: "[1,2]"},
		{v: `{"a":1,"b":2}`, a: steps(toKey("a")), want: `{"b":2}`},
		{v: "<1,<1>>", a: steps(toMember(one)), want: "<<1>>"},
		{v: "<1,<1>>", a: steps(toMember(inner)), want: "<1>"},
		{v: `[{"a":<1,2>},0]`, a: steps(toItem(0), toKey("a"), toMember(one)), want: `[{"a":<2>},0]`},
		{v: `[{"a":<1,2>},0]`, a: steps(toItem(0), toKey("a")), want: `[{},0]`},
		{v: "[1]", a: steps(toItem(1)), code: api.ErrNone, place: 0},
		{v: "[1]", a: steps(toItem(-1)), code: api.ErrNone, place: 0},
		{v: `{"a":{"b":1}}`, a: steps(toKey("a"), toKey("a")), code: api.ErrNone, place: 1},
		{v: "<1>", a: steps(toMember(inner)), code: api.ErrNone, place: 0},
		{v: "[<1>]", a: steps(toItem(0), toMember("1")), code: api.ErrNone, place: 1},
		{v: "<<1>>", a: steps(toMember(inner), toMember(one)), code: api.ErrSet, place: 0},
		{v: "1", a: steps(toItem(0)), code: api.ErrKind, place: 0},
		{v: "[1]", a: steps(toKey("a")), code: api.ErrKind, place: 0},
		{v: "[[1]]", a: steps(toItem(0), api.Step{Kind: 3}), code: api.ErrArg, place: 1},
		{v: "[1]", code: api.ErrEdge, place: 0},
		{v: "null", a: steps(), code: api.ErrEdge, place: 0},
	})
}

// P15.2: Add.
func TestAdd(t *testing.T) {
	one, inner := keyOfText(t, "1"), keyOfText(t, "<1>")
	checkTrials(t, doAdd, []trial{
		{v: "<>", x: "<>", want: "<<>>"},
		{v: "<2>", a: steps(), x: "1", want: "<1,2>"},
		{v: "<1,2>", x: "1", want: "<1,2>"},
		{v: "<1>", x: "<1>", want: "<1,<1>>"},
		{v: "[<>]", a: steps(toItem(0)), x: "1", want: "[<1>]"},
		{v: `{"a":[0,<1>]}`, a: steps(toKey("a"), toItem(1)), x: "[1]", want: `{"a":[0,<1,[1]>]}`},
		{v: `[<1>]`, a: steps(toItem(0)), x: "1", want: "[<1>]"},
		{v: "null", x: "1", code: api.ErrKind, place: 0},
		{v: "[]", x: "1", code: api.ErrKind, place: 0},
		{v: "{}", x: "1", code: api.ErrKind, place: 0},
		{v: "[[]]", a: steps(toItem(0)), x: "1", code: api.ErrKind, place: 1},
		{v: `{"a":[5]}`, a: steps(toKey("a"), toItem(0)), x: "1", code: api.ErrKind, place: 2},
		{v: "[<>]", a: steps(toItem(1)), x: "1", code: api.ErrNone, place: 0},
		{v: "{}", a: steps(toKey("a")), x: "1", code: api.ErrNone, place: 0},
		{v: "[<>]", a: steps(toKey("a")), x: "1", code: api.ErrKind, place: 0},
		{v: "[<>]", a: steps(api.Step{Kind: 3}), x: "1", code: api.ErrArg, place: 0},
		{v: "<<1>>", a: steps(toMember(inner)), x: "2", code: api.ErrSet, place: 0},
		{v: "<1>", a: steps(toMember(one)), x: "2", code: api.ErrSet, place: 0},
		{v: "<<1>>", a: steps(toMember(one)), x: "2", code: api.ErrNone, place: 0},
		{v: "<<1>>", a: steps(toItem(0)), x: "2", code: api.ErrKind, place: 0},
		{v: "[<<1>>]", a: steps(toItem(0), toMember(inner)), x: "2", code: api.ErrSet, place: 1},
		{v: "[[<1>]]", a: steps(toItem(0), toItem(1)), x: "2", code: api.ErrNone, place: 1},
	})
}

// nested is so many values of these signs, each in the one ahead, and at the innermost place x.
func nested(n int, begin, x, end string) string {
	return strings.Repeat(begin, n) + x + strings.Repeat(end, n)
}

// P15.2: MaxDepth is told where it is first too deep on the way up.
func TestMaxDepth(t *testing.T) {
	ones, sets, empty := nested(63, "[", "1", "]"), nested(62, "[", "<>", "]"), nested(63, "[", "", "]")
	for d := 1; d <= 64; d++ {
		x := nested(d-1, "[", "1", "]")
		place, code := d-2, api.ErrDepth
		if d == 1 {
			place, code = 0, api.OK
		}
		checkTrials(t, doPut, []trial{{v: ones, a: zeros(63), x: x, want: ones, code: code, place: place}})
		checkTrials(t, doInsert, []trial{{v: empty, a: zeros(63), x: x, want: ones, code: code, place: place}})
		checkTrials(t, doAdd, []trial{{v: sets, a: zeros(62), x: x, want: nested(62, "[", "<1>", "]"), code: code, place: place}})
	}
	deep, wide := nested(64, "[", "", "]"), nested(63, "[", "", "]")
	checkTrials(t, doPut, []trial{
		{v: "[1]", a: zeros(1), x: deep, code: api.ErrDepth, place: 0},
		{v: "[1]", a: zeros(1), x: wide, want: "[" + wide + "]"},
		{v: "[" + wide + ",1]", a: zeros(1), x: "2", want: "[2,1]"},
		{v: `{"a":{}}`, a: steps(toKey("a"), toKey("b")), x: wide, code: api.ErrDepth, place: 0},
		{v: `{"a":{}}`, a: steps(toKey("a"), toKey("b")), x: deep, code: api.ErrDepth, place: 1},
		{v: "[]", x: deep, want: deep},
	})
	checkTrials(t, doAdd, []trial{
		{v: "<>", x: deep, code: api.ErrDepth, place: 0},
		{v: "[<>]", a: zeros(1), x: deep, code: api.ErrDepth, place: 1},
		{v: "[<>]", a: zeros(1), x: wide, code: api.ErrDepth, place: 0},
	})
}

// list is n numbers with commas between.
func list(n int) string {
	l := make([]string, n)
	for i := range l {
		l[i] = strconv.Itoa(i)
	}
	return strings.Join(l, ",")
}

// P15.2: MaxNodes likewise; what is too deep and has too many nodes is told for the first of these, but only at one place.
func TestMaxNodes(t *testing.T) {
	const most = 1 << 14
	numbers := list(most - 2)
	v, set, big := "[["+numbers+"]]", "[<"+numbers+">]", "["+numbers+"]"
	for _, x := range []struct {
		name string
		trial
	}{
		{doPut, trial{v: v, a: zeros(2), x: "[]", want: strings.Replace(v, "0", "[]", 1)}},
		{doPut, trial{v: v, a: zeros(2), x: "[0]", code: api.ErrNodes, place: 0}},
		{doPut, trial{v: v, a: zeros(2), x: "[0,0]", code: api.ErrNodes, place: 1}},
		{doPut, trial{v: "[1,2]", a: zeros(1), x: big, code: api.ErrNodes, place: 0}},
		{doPut, trial{v: "[1]", a: zeros(1), x: big, want: "[" + big + "]"}},
		{doPut, trial{v: v, a: zeros(2), x: nested(63, "[", "", "]"), code: api.ErrNodes, place: 1}},
		{doPut, trial{v: v, a: zeros(2), x: nested(64, "[", "", "]"), code: api.ErrDepth, place: 1}},
		{doInsert, trial{v: v, a: steps(toItem(0), toItem(3)), x: "0", code: api.ErrNodes, place: 0}},
		{doInsert, trial{v: v, a: steps(toItem(0), toItem(3)), x: "[0]", code: api.ErrNodes, place: 1}},
		{doInsert, trial{v: v, a: steps(toItem(1)), x: "0", code: api.ErrNodes, place: 0}},
		{doCut, trial{v: v, a: zeros(2), want: "[[" + numbers[2:] + "]]"}},
		{doAdd, trial{v: set, a: zeros(1), x: "5", want: set}},
		{doAdd, trial{v: set, a: zeros(1), x: "-1", code: api.ErrNodes, place: 0}},
		{doAdd, trial{v: set, a: zeros(1), x: "[0]", code: api.ErrNodes, place: 1}},
	} {
		checkTrial(t, x.name, usual(), x.trial)
	}
}

// checkAll holds All against the addresses that it must tell.
func checkAll(t *testing.T, v value.Value, want [][]api.Step) {
	t.Helper()
	got := All(v)
	if !slices.EqualFunc(got, want, slices.Equal) {
		t.Errorf("All of %s: %d addresses; want %d", brief(codec.Encode(v)), len(got), len(want))
		for i := range min(len(got), len(want), 20) {
			t.Errorf("%s; want %s", shown(got[i]), shown(want[i]))
		}
	}
}

// P15.3: All.
func TestAll(t *testing.T) {
	checkAll(t, value.Value{}, [][]api.Step{{}})
	one, vec, inner := keyOfText(t, "1"), keyOfText(t, "[1]"), keyOfText(t, "<[1]>")
	for _, x := range []struct {
		v    string
		want [][]api.Step
	}{
		{"5", [][]api.Step{{}}},
		{"[]", [][]api.Step{{}}},
		{"<>", [][]api.Step{{}}},
		{"[[1],2]", [][]api.Step{{}, {toItem(0)}, {toItem(0), toItem(0)}, {toItem(1)}}},
		{"[1,[2,[3]],4]", [][]api.Step{{}, {toItem(0)}, {toItem(1)}, {toItem(1), toItem(0)}, {toItem(1), toItem(1)}, {toItem(1), toItem(1), toItem(0)}, {toItem(2)}}},
		{`{"b":1,"a":{"":2},"aa":[]}`, [][]api.Step{{}, {toKey("a")}, {toKey("a"), toKey("")}, {toKey("aa")}, {toKey("b")}}},
		{"<<[1]>,1,[1]>", [][]api.Step{{}, {toMember(one)}, {toMember(vec)}, {toMember(vec), toItem(0)}, {toMember(inner)}, {toMember(inner), toMember(vec)}, {toMember(inner), toMember(vec), toItem(0)}}},
		{"[[[1]],2,[3]]", [][]api.Step{{}, zeros(1), zeros(2), zeros(3), {toItem(1)}, {toItem(2)}, {toItem(2), toItem(0)}}},
	} {
		for _, c := range confs() {
			checkAll(t, read(t, c, x.v), x.want)
		}
	}
	var want [][]api.Step
	for n := range 64 {
		want = append(want, zeros(n))
	}
	checkAll(t, read(t, usual(), nested(64, "[", "", "]")), want)
}

// P15.3: Begins.
func TestBegins(t *testing.T) {
	a, b := toItem(1), toKey("a")
	for _, x := range []struct {
		a, b []api.Step
		want bool
	}{
		{nil, nil, true},
		{nil, steps(), true},
		{steps(), nil, true},
		{nil, steps(a), true},
		{steps(a), nil, false},
		{steps(a), steps(a), true},
		{steps(a), steps(a, b), true},
		{steps(a, b), steps(a), false},
		{steps(a, b), steps(a, b), true},
		{steps(b), steps(a, b), false},
		{steps(a, a), steps(a, b), false},
		{steps(b, a), steps(a, a), false},
		{steps(toItem(0)), steps(toItem(1)), false},
		{steps(toKey("a")), steps(toMember("a")), false},
		{steps(toKey("a")), steps(toKey("ab")), false},
		{steps(toItem(0)), steps(api.Step{Text: "x"}), false},
		{steps(toKey("a")), steps(api.Step{Kind: api.StKey, Int: 1, Text: "a"}), false},
		{steps(api.Step{Kind: 9, Int: 1, Text: "a"}), steps(api.Step{Kind: 9, Int: 1, Text: "a"}), true},
		{steps(api.Step{Kind: 9}), steps(api.Step{Kind: 8}), false},
	} {
		if got := Begins(x.a, x.b); got != x.want || begins(x.a, x.b) != x.want {
			t.Errorf("Begins of %s and %s: %v", shown(x.a), shown(x.b), got)
		}
	}
}

// P15.3: Apart.
func TestApart(t *testing.T) {
	a, b, c := toItem(1), toKey("a"), toMember("x")
	for _, x := range []struct {
		l    [][]api.Step
		want bool
	}{
		{nil, true},
		{[][]api.Step{}, true},
		{[][]api.Step{{}}, true},
		{[][]api.Step{{}, nil}, false},
		{[][]api.Step{{}, {a}}, false},
		{[][]api.Step{{a}, {}}, false},
		{[][]api.Step{{a}}, true},
		{[][]api.Step{{a}, {a}}, false},
		{[][]api.Step{{a}, {b}, {a}}, false},
		{[][]api.Step{{a}, {b}, {c}}, true},
		{[][]api.Step{{a}, {b}, {b, a}}, false},
		{[][]api.Step{{b, a}, {a}, {b}}, false},
		{[][]api.Step{{b, a}, {a, b}, {b, b}}, true},
		{[][]api.Step{{a, b, c}, {b}, {c}, {a, b}}, false},
		{[][]api.Step{{a, b}, {a, c}, {a, a}, {b, c}, {a, b, c}}, false},
		{[][]api.Step{{toItem(0)}, {toItem(0), a}}, false},
		{[][]api.Step{{toItem(0)}, {api.Step{Text: "x"}, a}}, true},
		{[][]api.Step{{toKey("a")}, {toKey("ab")}, {toMember("a")}}, true},
		{[][]api.Step{{toKey("a")}, {api.Step{Kind: api.StKey, Int: 1, Text: "a"}}}, true},
		{[][]api.Step{{api.Step{Kind: -4}}, {api.Step{Kind: -4}, a}}, false},
		{[][]api.Step{{toKey("a")}, {toMember("a"), toItem(1)}, {toKey("a"), toItem(2)}}, false},
		{[][]api.Step{{toMember("a")}, {toKey("a"), toItem(1)}, {toMember("a"), toItem(2)}}, false},
	} {
		before := make([][]api.Step, len(x.l))
		for i, a := range x.l {
			before[i] = slices.Clone(a)
		}
		if got := Apart(x.l); got != x.want || apart(x.l) != x.want {
			t.Errorf("Apart of %d addresses from %s on: %v", len(x.l), shown(slices.Concat(x.l...)), got)
		}
		if !slices.EqualFunc(x.l, before, slices.Equal) {
			t.Error("Apart has changed its list")
		}
	}
}

// P15.3: Begins and Apart of all short addresses of some steps.
func TestAllShortAddresses(t *testing.T) {
	all := [][]api.Step{nil}
	for _, from := range []int{0, 1, 4} { // where those of the last length begin
		for _, a := range all[from:] {
			for _, s := range []api.Step{toItem(0), toItem(1), toKey("a")} {
				all = append(all, append(slices.Clone(a), s))
			}
		}
	}
	for _, a := range all {
		for _, b := range all {
			if Begins(a, b) != begins(a, b) {
				t.Errorf("Begins of %s and %s: %v", shown(a), shown(b), Begins(a, b))
			}
			for _, c := range all[:13] {
				if l := [][]api.Step{a, b, c}; Apart(l) != apart(l) {
					t.Errorf("Apart of %s, %s and %s: %v", shown(a), shown(b), shown(c), Apart(l))
				}
			}
		}
	}
	draw := drawer()
	for i := range 3000 {
		var l [][]api.Step
		for range draw(8) {
			a := slices.Clone(all[draw(len(all))])
			if len(a) > 0 && i%3 == 0 {
				a[draw(len(a))] = drawnStep(draw)
			}
			l = append(l, a)
		}
		if Apart(l) != apart(l) {
			t.Errorf("Apart of %d addresses from %s on: %v", len(l), shown(slices.Concat(l...)), Apart(l))
		}
	}
}

// written is an address, and its text.
type written struct {
	a    []api.Step
	text string
}

// examples are of steps of the three Kinds, without what these do not need.
func examples() []written {
	return []written{
		{nil, "$"},
		{steps(), "$"},
		{steps(toItem(0)), "$[0]"},
		{steps(toItem(-7), toItem(12)), "$[-7][12]"},
		{steps(toItem(math.MaxInt), toItem(math.MinInt)), "$[9223372036854775807][-9223372036854775808]"},
		{steps(toItem(0), toKey("k")), `$[0]["k"]`},
		{steps(toKey("")), `$[""]`},
		{steps(toKey("a b"), toKey("\"\\\n\x00\xff")), `$["a b"]["\"\\\n\x00\xff"]`},
		{steps(toKey("0"), toKey("*")), `$["0"]["*"]`},
		{steps(toMember("")), `$<"">`},
		{steps(toMember("\x03\x80\x00a\""), toItem(3)), `$<"\x03\x80\x00a\"">[3]`},
		{steps(toMember("a"), toMember("b"), toKey(">")), `$<"a"><"b">[">"]`},
	}
}

// P15.4: Print.
func TestPrint(t *testing.T) {
	for _, x := range append(examples(),
		written{steps(api.Step{Kind: 3, Int: 1, Text: "a"}), "$[?]"},
		written{steps(api.Step{Kind: -1}, toItem(0), api.Step{Kind: math.MaxInt}), "$[?][0][?]"},
		written{steps(api.Step{Kind: api.StIndex, Int: 4, Text: "a"}), "$[4]"},
		written{steps(api.Step{Kind: api.StKey, Int: 4, Text: "a"}), `$["a"]`},
		written{steps(api.Step{Kind: api.StMember, Int: 4, Text: "a"}), `$<"a">`},
	) {
		if s := Print(x.a); s != x.text {
			t.Errorf("Print of %s: %s; want %s", shown(x.a), s, x.text)
		}
	}
}

// checkParse holds Parse against what its tokens' letters tell.
func checkParse(t *testing.T, s string) {
	t.Helper()
	want, code, place := parsed(s)
	a, err := Parse(s)
	checkError(t, "Parse of "+brief(s), err, code, place)
	if !slices.Equal(a, want) {
		t.Errorf("Parse of %s: %s; want %s", brief(s), shown(a), shown(want))
	}
}

// P15.4: Parse of what Print writes, and of what has blanks and other escapes.
func TestParse(t *testing.T) {
	for _, x := range append(examples(),
		written{nil, " \t\r\n$ "},
		written{steps(toItem(0), toKey("k")), "\n$ [\t0 ] [ \"k\"\r] "},
		written{steps(toMember("a"), toMember("b")), `$ < "a" > < "b" > `},
		written{steps(toKey("A/\xc3\xa9")), `$["\x41\/é"]`},
		written{steps(toItem(-1)), "$[-1]"},
	) {
		a, err := Parse(x.text)
		checkError(t, "Parse of "+brief(x.text), err, api.OK, 0)
		if !slices.Equal(a, x.a) {
			t.Errorf("Parse of %s: %s; want %s", brief(x.text), shown(a), shown(x.a))
		}
		checkParse(t, x.text)
	}
}

// P15.4, R2: where a text breaks.
func TestParseRefuses(t *testing.T) {
	for _, x := range []struct {
		s     string
		code  api.Errno
		place int
	}{
		{"", api.ErrShort, 0},
		{" \n", api.ErrShort, 2},
		{"$[", api.ErrShort, 2},
		{"$[ ", api.ErrShort, 3},
		{"$[0", api.ErrShort, 3},
		{`$["a"`, api.ErrShort, 5},
		{"$<", api.ErrShort, 2},
		{`$<"a" `, api.ErrShort, 6},
		{"$[0][", api.ErrShort, 5},
		{"[0]", api.ErrForm, 0},
		{" @", api.ErrForm, 1},
		{"a", api.ErrForm, 0},
		{"0", api.ErrForm, 0},
		{`"$"`, api.ErrForm, 0},
		{"$$", api.ErrForm, 1},
		{"$ 0", api.ErrForm, 2},
		{"$a", api.ErrForm, 1},
		{"$.a", api.ErrForm, 1},
		{"$..", api.ErrForm, 1},
		{`$"a"`, api.ErrForm, 1},
		{`$"["0]`, api.ErrForm, 1},
		{"$]", api.ErrForm, 1},
		{"$>", api.ErrForm, 1},
		{"$[]", api.ErrForm, 2},
		{"$[?]", api.ErrForm, 2},
		{"$[*]", api.ErrForm, 2},
		{"$[a]", api.ErrForm, 2},
		{"$[null]", api.ErrForm, 2},
		{"$[[0]]", api.ErrForm, 2},
		{"$[:1]", api.ErrForm, 2},
		{"$[1:]", api.ErrForm, 3},
		{"$[1 2]", api.ErrForm, 4},
		{"$[1,2]", api.ErrForm, 3},
		{"$[1>", api.ErrForm, 3},
		{`$["a">`, api.ErrForm, 5},
		{`$["a" "]"`, api.ErrForm, 6},
		{"$<>", api.ErrForm, 2},
		{"$<1>", api.ErrForm, 2},
		{"$<a>", api.ErrForm, 2},
		{`$<"a"]`, api.ErrForm, 5},
		{`$<"a">=`, api.ErrForm, 5},
		{`$<="a">`, api.ErrForm, 1},
		{`$<"a""b">`, api.ErrForm, 5},
		{"$[0]]", api.ErrForm, 4},
		{"$[0] x", api.ErrForm, 5},
		{"$[0]$", api.ErrForm, 4},
		{"$[0][0", api.ErrShort, 6},
		// what lex.Next tells
		{"#", api.ErrForm, 0},
		{"$#", api.ErrForm, 1},
		{"$ =", api.ErrForm, 2},
		{"$[#", api.ErrForm, 2},
		{"$[0#", api.ErrForm, 3},
		{"$[0]#", api.ErrForm, 4},
		{"$[-]", api.ErrForm, 2},
		{"$[-0]", api.ErrForm, 2},
		{"$[01]", api.ErrForm, 2},
		{"$[9223372036854775808]", api.ErrRange, 2},
		{"$[0][-9223372036854775809]", api.ErrRange, 5},
		{`$["a`, api.ErrShort, 4},
		{`$["a]`, api.ErrShort, 5},
		{`$["\q"]`, api.ErrForm, 4},
		{"$[\"\n\"]", api.ErrForm, 3},
		{`$<"\x4`, api.ErrShort, 6},
		{`$<99999999999999999999>`, api.ErrRange, 2},
		{`$[0]"a`, api.ErrShort, 6},
		{`$["a"00]`, api.ErrForm, 5},
	} {
		a, err := Parse(x.s)
		checkError(t, "Parse of "+brief(x.s), err, x.code, x.place)
		if len(a) > 0 {
			t.Errorf("Parse of %s: %s beside an error", brief(x.s), shown(a))
		}
		checkParse(t, x.s)
	}
}

// P15.4: all short texts of some pieces.
func TestAllShortTexts(t *testing.T) {
	for _, some := range []struct {
		pieces string
		most   int
	}{
		{`$ [ ] < > 1 "a" ? x #`, 4},
		{`$ [ ] 1 "a"`, 5},
		{`< > "a" =`, 5},
		{`[1 ] ["a"] <"a"> < -`, 5},
	} {
		pieces := append(strings.Fields(some.pieces), " ")
		texts := []string{"", "$"}
		for range some.most {
			var longer []string
			for _, s := range texts {
				for _, p := range pieces {
					longer = append(longer, s+p)
				}
			}
			for _, s := range longer {
				checkParse(t, s)
			}
			texts = longer
		}
	}
}

// P15.7: what is printed is parsed as the same steps, and with blanks between, too.
func TestThereAndBack(t *testing.T) {
	draw := drawer()
	for range 5000 {
		var a []api.Step
		for range draw(6) {
			s := drawnStep(draw)
			switch {
			case s.Kind < 0 || s.Kind > api.StMember:
				continue
			case s.Kind == api.StIndex:
				s.Text = ""
			default:
				s.Int = 0
			}
			a = append(a, s)
		}
		text := Print(a)
		for _, s := range []string{text, " " + text + "\t", strings.ReplaceAll(text, "][", "]\r\n ["), strings.Replace(text, "$", " $\n", 1)} {
			got, err := Parse(s)
			if err != nil || !slices.Equal(got, a) {
				t.Fatalf("Parse of %s: %s, %v; want %s", brief(s), shown(got), err, shown(a))
			}
			if again := Print(got); again != text {
				t.Fatalf("Print of %s: %s; want %s", shown(got), again, text)
			}
		}
	}
	// whatever bytes stand in a text
	for c := range 256 {
		for _, s := range []string{string([]byte{byte(c)}), "a" + string([]byte{byte(c), 'b'})} {
			a := steps(toKey(s), toMember(s), toKey(s+s))
			got, err := Parse(Print(a))
			if err != nil || !slices.Equal(got, a) {
				t.Errorf("Parse of %s: %s, %v", Print(a), shown(got), err)
			}
		}
	}
}

// checkAnswer holds a value, or an error, against what plain trees tell; what was asked is as it was.
func checkAnswer(t *testing.T, call string, v value.Value, err error, want answer) {
	t.Helper()
	checkError(t, call, err, want.code, want.place)
	checkText(t, call, v, codec.Encode(of(t, usual(), want.tree)))
}

// P15.1 to P15.3, R2, R4: of values and addresses that are drawn all calls tell what plain trees tell, by whichever Conf.
func TestDrawn(t *testing.T) {
	draw := drawer()
	came := map[string]int{}
	for i := range 4000 {
		tree, x := drawnTree(draw, 1+i%5), drawnTree(draw, 1+i%3)
		v, with := of(t, confs()[i%len(confs())], tree), of(t, usual(), x)
		plain, before := v.Tree(), codec.Encode(v)
		checkAll(t, v, all(plain, nil))
		for range 4 {
			a := drawnAddress(draw, plain)
			keep := slices.Clone(a)
			call := " of " + before + " at " + shown(a) + " with " + codec.Encode(with)
			part, err := Get(v, a)
			checkAnswer(t, "Get"+call, part, err, got(plain, a))
			for _, name := range changes() {
				want := changed(name, plain, a, x)
				out, err := do(name, v, a, with)
				checkAnswer(t, name+call, out, err, want)
				if want.code == api.OK {
					came[name]++
				}
			}
			if !slices.Equal(a, keep) {
				t.Errorf("the address is %s now, and was %s", shown(a), shown(keep))
			}
		}
		checkText(t, "what was asked", v, before)
	}
	for _, name := range changes() {
		if came[name] < 200 {
			t.Errorf("%s has changed only %d values", name, came[name])
		}
	}
}

// P15.5, P15.6: what follows, of values that are drawn.
func TestWhatFollows(t *testing.T) {
	draw := drawer()
	put, inserted := 0, 0
	for i := range 1500 {
		v := of(t, confs()[i%len(confs())], drawnTree(draw, 2+i%4))
		x := of(t, usual(), drawnTree(draw, 1+i%3))
		same := codec.Encode(v)
		list := All(v)
		for _, a := range list {
			part, err := Get(v, a)
			checkError(t, "Get of "+same+" at "+shown(a), err, api.OK, 0)
			back, err := Put(v, a, part)
			if beneath(v, a) {
				checkError(t, "Put into "+same+" at "+shown(a), err, api.ErrSet, firstSet(v, a))
				continue
			}
			checkError(t, "Put into "+same+" at "+shown(a), err, api.OK, 0)
			checkText(t, "what is put back at "+shown(a), back, same)
			other, err := Put(v, a, x)
			checkError(t, "Put into "+same+" at "+shown(a), err, api.OK, 0)
			there, err := Get(other, a)
			checkError(t, "Get of what was put at "+shown(a), err, api.OK, 0)
			checkText(t, "what was put at "+shown(a), there, codec.Encode(x))
			checkStays(t, v, other, list, a)
			put++
			more, err := Insert(v, a, x)
			if err != nil {
				continue
			}
			back, err = Cut(more, a)
			checkError(t, "Cut of what was inserted at "+shown(a), err, api.OK, 0)
			checkText(t, "what was inserted and cut again at "+shown(a), back, same)
			inserted++
		}
	}
	if put < 1000 || inserted < 200 {
		t.Errorf("only %d values were put, and %d inserted", put, inserted)
	}
}

// firstSet is the number of the first step of a that leads on from a set; -1, if there is none.
func firstSet(v value.Value, a []api.Step) int {
	for i, s := range a {
		if v.Kind() == api.KSet {
			return i
		}
		v, _ = v.Get(s)
	}
	return -1
}

func beneath(v value.Value, a []api.Step) bool { return firstSet(v, a) >= 0 }

// checkStays: what lies in v at those of list that neither begin a nor are begun by it lies in other, too.
func checkStays(t *testing.T, v, other value.Value, list [][]api.Step, a []api.Step) {
	t.Helper()
	for _, b := range list {
		if begins(a, b) || begins(b, a) {
			continue
		}
		was, _ := Get(v, b)
		is, err := Get(other, b)
		checkError(t, "Get at "+shown(b)+" after a Put at "+shown(a), err, api.OK, 0)
		checkText(t, "what lies at "+shown(b)+" after a Put at "+shown(a), is, codec.Encode(was))
	}
}

// P15.5: a new key leaves all else as it was; an item that is inserted moves those behind it alone.
func TestNew(t *testing.T) {
	v := read(t, usual(), `{"a":[1,[2],<3>],"c":{"d":4}}`)
	more, err := Put(v, steps(toKey("c"), toKey("e")), v)
	checkError(t, "Put", err, api.OK, 0)
	checkStays(t, v, more, All(v), steps(toKey("c"), toKey("e")))
	longer, err := Insert(v, steps(toKey("a"), toItem(1)), v)
	checkError(t, "Insert", err, api.OK, 0)
	checkText(t, "Insert", longer, `{"a":[1,{"a":[1,[2],<3>],"c":{"d":4}},[2],<3>],"c":{"d":4}}`)
	checkText(t, "what was asked", v, `{"a":[1,[2],<3>],"c":{"d":4}}`)
}

// R3: answers are memory of their own, and so is each list in them; what is handed in is not written to, nor is what lies behind it.
func TestAnswersAreNew(t *testing.T) {
	v := read(t, usual(), `[[1,[2,3]],{"a":<4>},5]`)
	want := all(v.Tree(), nil)
	for range 2 {
		l := All(v)
		if !slices.EqualFunc(l, want, slices.Equal) {
			t.Fatal("All: another one the second time")
		}
		for i := range l {
			for k := range l[i] {
				l[i][k] = toKey("spoilt " + strconv.Itoa(i))
			}
			l[i] = append(l[i], toKey("more"))
			for k, s := range l[i] {
				if k < len(want[i]) && s.Text != "spoilt "+strconv.Itoa(i) {
					t.Errorf("All: the addresses share memory")
				}
			}
			for k := i + 1; k < len(l); k++ {
				if !slices.Equal(l[k], want[k]) {
					t.Errorf("All: what is written into address %d is seen in address %d", i, k)
				}
			}
		}
		clear(l)
		a, err := Parse(`$[0]["k"]`)
		if err != nil || !slices.Equal(a, steps(toItem(0), toKey("k"))) {
			t.Fatalf("Parse: %s, %v", shown(a), err)
		}
		a[0], a[1] = toItem(9), toItem(9)
	}
	long := steps(toItem(0), toItem(1), toItem(0), toKey("behind"))
	for _, name := range changes() {
		_, err := do(name, v, long[:3], v)
		if name == doAdd {
			checkError(t, name, err, api.ErrKind, 3)
		} else {
			checkError(t, name, err, api.OK, 0)
		}
	}
	if !slices.Equal(long, steps(toItem(0), toItem(1), toItem(0), toKey("behind"))) {
		t.Errorf("the address is %s now", shown(long))
	}
	changed, _ := Put(v, long[:3], v)
	long[0], long[2] = toItem(2), toItem(7)
	checkText(t, "what was put ahead of a change of its address", changed, `[[1,[[[1,[2,3]],{"a":<4>},5],3]],{"a":<4>},5]`)
}

// R5, R6: the zero value is null; no steps and a nil list are the same.
func TestZero(t *testing.T) {
	var zero value.Value
	for _, a := range [][]api.Step{nil, {}} {
		v, err := Get(zero, a)
		checkAnswer(t, "Get", v, err, answer{})
		v, err = Put(zero, a, zero)
		checkAnswer(t, "Put", v, err, answer{})
		v, err = Insert(zero, a, zero)
		checkAnswer(t, "Insert", v, err, refused(api.ErrEdge, 0))
		v, err = Cut(zero, a)
		checkAnswer(t, "Cut", v, err, refused(api.ErrEdge, 0))
		v, err = Add(zero, a, zero)
		checkAnswer(t, "Add", v, err, refused(api.ErrKind, 0))
		if s := Print(a); s != "$" {
			t.Errorf("Print of no steps: %s", s)
		}
	}
	some := read(t, usual(), "[null]")
	v, err := Put(some, zeros(1), zero)
	checkError(t, "Put", err, api.OK, 0)
	checkText(t, "Put", v, "[null]")
	v, err = Add(read(t, usual(), "<>"), nil, zero)
	checkError(t, "Add", err, api.OK, 0)
	checkText(t, "Add", v, "<null>")
}

// Bound: values of MaxNodes, long addresses, many of them, long texts.
func TestBound(t *testing.T) {
	const most = 1 << 14
	for _, x := range []struct {
		c api.Conf
		s string
	}{
		{usual(), "[" + list(most-1) + "]"},
		{usual(), "<" + list(most-1) + ">"},
		{usual(), nested(60, "[", list(most-60), "]")},
		{usual(), nested(60, "<", list(most/2), ">")},
		{api.Conf{Bits: 0}, "<" + list(most/4) + ">"},
	} {
		l := All(read(t, x.c, x.s))
		if !Apart(l[61:]) || Apart(l) {
			t.Errorf("Apart of the addresses in %s", brief(x.s))
		}
	}
	long := zeros(1 << 16)
	text := Print(long)
	if a, err := Parse(text); err != nil || !slices.Equal(a, long) {
		t.Errorf("Parse of %s: %v", brief(text), err)
	}
	var l [][]api.Step
	for i := range 1000 {
		l = append(l, append(zeros(1000), toItem(i)))
	}
	if !Apart(l) || Apart(append(l, zeros(1000))) {
		t.Error("Apart of long addresses")
	}
	_, err := Put(read(t, usual(), "[1]"), long, value.Value{})
	checkError(t, "Put at a long address", err, api.ErrKind, 1)
}

// Ways: a change goes down by functions that are handed on; what lies in a value is told by a loop that goes on at its label; addresses are cut with three numbers. Addr stands on no other packages of the project than its chapter says.
func TestWays(t *testing.T) {
	file, err := parser.ParseFile(token.NewFileSet(), "addr.go", nil, 0)
	if err != nil {
		t.Fatal(err)
	}
	ways := map[string]bool{}
	for _, d := range file.Decls {
		f, ok := d.(*ast.FuncDecl)
		if !ok {
			continue
		}
		ast.Inspect(f, func(n ast.Node) bool {
			switch n := n.(type) {
			case *ast.FuncLit:
				ways[f.Name.Name+" closure"] = true
			case *ast.BranchStmt:
				if n.Label != nil {
					ways[f.Name.Name+" "+n.Tok.String()+" at a label"] = true
				}
			case *ast.SliceExpr:
				if n.Slice3 {
					ways[f.Name.Name+" three numbers"] = true
				}
			}
			return true
		})
	}
	for _, way := range []string{"Put closure", "Insert closure", "Cut closure", "Add closure", "atLast closure", "All continue at a label", "All three numbers"} {
		if !ways[way] {
			t.Errorf("there is none: %s", way)
		}
	}
	allowed := []string{"placket/api", "placket/fault", "placket/lex", "placket/num", "placket/quote", "placket/value", "cmp", "slices", "strings"}
	for _, i := range file.Imports {
		if path, _ := strconv.Unquote(i.Path.Value); !slices.Contains(allowed, path) {
			t.Errorf("addr does not stand on %s", path)
		}
	}
}
