package value

import (
	"encoding/hex"
	"go/ast"
	"go/parser"
	"go/token"
	"math"
	"slices"
	"strconv"
	"strings"
	"testing"

	"placket/api"
)

// short is a text that is not too long to be told.
func short(t api.Tree) string {
	k := hex.EncodeToString([]byte(keyOf(t)))
	return k[:min(len(k), 120)]
}

// check asks v, and all that lies in it, for all that a value tells; want is canonical.
func check(t *testing.T, name string, v Value, want api.Tree) {
	t.Helper()
	checkOne(t, name, v, want)
	for i, s := range stepsOf(want) {
		check(t, name, good(t)(v.Get(s)), want.Items[i])
	}
}

// checkOne asks v for all that a value tells, but for what lies in its parts.
func checkOne(t *testing.T, name string, v Value, want api.Tree) {
	t.Helper()
	if v.Kind() != want.Kind || v.Len() != len(want.Items) || v.Depth() != depthOf(want) || v.Nodes() != nodesOf(want) {
		t.Fatalf("%s: %s: kind %d, %d parts, depth %d, %d nodes; want %d, %d, %d, %d", name, short(want), v.Kind(), v.Len(), v.Depth(), v.Nodes(), want.Kind, len(want.Items), depthOf(want), nodesOf(want))
	}
	var plain api.Scalar
	if want.Kind <= api.KText {
		plain = api.Scalar{Kind: want.Kind, Int: want.Int, Text: want.Text}
	}
	if s, is := v.Scalar(); s != plain || is != (want.Kind <= api.KText) {
		t.Fatalf("%s: %s: Scalar: %v, %v", name, short(want), s, is)
	}
	if k := v.Key(); k != keyOf(want) {
		t.Fatalf("%s: Key %x; want %x", name, k, keyOf(want))
	}
	if x := v.Tree(); !equal(x, want) {
		t.Fatalf("%s: Tree %v; want %v", name, x, want)
	}
	steps := stepsOf(want)
	if l := v.Steps(); !slices.Equal(l, steps) {
		t.Fatalf("%s: %s: Steps %v; want %v", name, short(want), l, steps)
	}
	for i, s := range steps {
		if x, e := v.Get(s); e != api.OK || x.Kind() != want.Items[i].Kind || x.Nodes() != nodesOf(want.Items[i]) {
			t.Fatalf("%s: %s: Get(%v): %v, %v", name, short(want), s, x.Tree(), e)
		}
	}
	checkInner(t, name, v)
}

// checkInner looks at how v is kept.
func checkInner(t *testing.T, name string, v Value) {
	t.Helper()
	if v.Kind() < api.KVec {
		if v.inner != nil {
			t.Fatalf("%s: a scalar in which something lies", name)
		}
		return
	}
	var depths [65]int
	nodes := 0
	for s, x := range v.parts() {
		depths[x.Depth()]++
		nodes += x.Nodes()
		if s.Kind == api.StMember && s.Text != x.Key() {
			t.Fatalf("%s: the member %x lies at %x", name, x.Key(), s.Text)
		}
	}
	count := v.inner.count
	if count.nodes != nodes || len(count.depths) > 0 && count.depths[len(count.depths)-1] == 0 {
		t.Fatalf("%s: %v are told of %d nodes", name, count, nodes)
	}
	for i, n := range count.depths {
		if n != depths[i+1] {
			t.Fatalf("%s: %d parts of depth %d; want %d", name, n, i+1, depths[i+1])
		}
	}
}

// checkAnswer looks at what a call answered: v and e; the model's words are want and its error.
func checkAnswer(t *testing.T, name string, v Value, e api.Errno, want api.Tree, wantE api.Errno) {
	t.Helper()
	if e != wantE {
		t.Fatalf("%s: error %d; want %d", name, e, wantE)
	}
	if e != api.OK && v != (Value{}) {
		t.Fatalf("%s: %v beside the error %d", name, v.Tree(), e)
	}
	if e == api.OK {
		checkOne(t, name, v, want)
	}
}

// The chapter's examples.
func TestExamples(t *testing.T) {
	v := of(t, api.Conf{}, vec(api.Tree{}, boolean(1)))
	if k := v.Key(); k != "\x05\x01\x02\x01\x00" || v.Depth() != 2 || v.Nodes() != 3 {
		t.Errorf("Key %x, depth %d, %d nodes", k, v.Depth(), v.Nodes())
	}
}

// P11.1, R5: the zero Value is null; all can be asked of it.
func TestNull(t *testing.T) {
	made, e := Plain(api.Scalar{})
	if e != api.OK {
		t.Fatal(e)
	}
	for _, v := range []Value{{}, made, of(t, api.Conf{Seed: 3, Bits: 5}, api.Tree{}), of(t, api.Conf{}, api.Tree{Keys: []string{}, Items: []api.Tree{}})} {
		check(t, "null", v, api.Tree{})
		if v.Key() != "\x01" || v.Depth() != 1 || v.Nodes() != 1 || v.Kind() != api.KNull {
			t.Errorf("null: %x, %d, %d, %d", v.Key(), v.Depth(), v.Nodes(), v.Kind())
		}
		askAll(t, v, api.Tree{}, v, api.Tree{})
	}
}

// P11.1.
func TestPlain(t *testing.T) {
	for _, x := range someScalars() {
		v, e := Plain(api.Scalar{Kind: x.Kind, Int: x.Int, Text: x.Text})
		checkAnswer(t, "Plain", v, e, x, api.OK)
	}
	for _, x := range []struct {
		s api.Scalar
		e api.Errno
	}{
		{api.Scalar{Kind: -1, Int: 1}, api.ErrKind},
		{api.Scalar{Kind: api.KVec}, api.ErrKind},
		{api.Scalar{Kind: api.KMap}, api.ErrKind},
		{api.Scalar{Kind: api.KSet, Text: "a"}, api.ErrKind},
		{api.Scalar{Kind: 7}, api.ErrKind},
		{api.Scalar{Kind: math.MinInt}, api.ErrKind},
		{api.Scalar{Int: 1}, api.ErrArg},
		{api.Scalar{Text: "a"}, api.ErrArg},
		{api.Scalar{Kind: api.KBool, Int: 2, Text: "a"}, api.ErrArg},
		{api.Scalar{Kind: api.KInt, Text: "1"}, api.ErrArg},
		{api.Scalar{Kind: api.KText, Int: 1, Text: "1"}, api.ErrArg},
		{api.Scalar{Kind: api.KBool, Int: 2}, api.ErrRange},
		{api.Scalar{Kind: api.KBool, Int: -1}, api.ErrRange},
	} {
		v, e := Plain(x.s)
		checkAnswer(t, "Plain of what is no scalar", v, e, api.Tree{}, x.e)
	}
}

// wrong is a tree, and what Check must tell of it.
type wrong struct {
	name string
	t    api.Tree
	e    api.Errno
}

// wrongAlone are trees that are wrong, or right, by their own fields, with the error that is named first.
func wrongAlone() []wrong {
	null, odd := api.Tree{}, api.Tree{Kind: 9}
	return []wrong{
		{"kind -1", api.Tree{Kind: -1}, api.ErrKind},
		{"kind 7", api.Tree{Kind: 7}, api.ErrKind},
		{"a great kind", api.Tree{Kind: math.MaxInt}, api.ErrKind},
		{"a small kind", api.Tree{Kind: math.MinInt}, api.ErrKind},
		{"kind 1, wrapped round", api.Tree{Kind: 1<<32 + 1}, api.ErrKind},
		{"no kind, with all", api.Tree{Kind: 7, Int: 1, Text: "a", Keys: []string{"a", "a"}, Items: []api.Tree{odd}}, api.ErrKind},
		{"null with a key", api.Tree{Keys: []string{""}}, api.ErrArg},
		{"null with an item", api.Tree{Items: []api.Tree{null}}, api.ErrArg},
		{"null with a wrong item", api.Tree{Items: []api.Tree{odd}}, api.ErrArg},
		{"a bool with an item, out of range", api.Tree{Kind: api.KBool, Int: 2, Items: []api.Tree{null}}, api.ErrArg},
		{"a bool with a key, out of range", api.Tree{Kind: api.KBool, Int: 2, Keys: []string{"a"}}, api.ErrArg},
		{"a bool with a text, out of range", api.Tree{Kind: api.KBool, Int: 2, Text: "a"}, api.ErrArg},
		{"a number with a key and an item", api.Tree{Kind: api.KInt, Keys: []string{"a"}, Items: []api.Tree{null}}, api.ErrArg},
		{"a text with an item", api.Tree{Kind: api.KText, Text: "a", Items: []api.Tree{null}}, api.ErrArg},
		{"null with a number", api.Tree{Int: -1}, api.ErrArg},
		{"null with a text", api.Tree{Text: "a"}, api.ErrArg},
		{"a number with a text", api.Tree{Kind: api.KInt, Int: 1, Text: "1"}, api.ErrArg},
		{"a text with a number", api.Tree{Kind: api.KText, Int: 1}, api.ErrArg},
		{"a bool out of range", api.Tree{Kind: api.KBool, Int: 2}, api.ErrRange},
		{"a bool below", api.Tree{Kind: api.KBool, Int: -1}, api.ErrRange},
		{"null with empty lists", api.Tree{Keys: []string{}, Items: []api.Tree{}}, api.OK},
		{"a vector with a number", api.Tree{Kind: api.KVec, Int: 1}, api.ErrArg},
		{"a vector with a text", api.Tree{Kind: api.KVec, Text: "a"}, api.ErrArg},
		{"a vector with a key", api.Tree{Kind: api.KVec, Keys: []string{"a"}}, api.ErrArg},
		{"a vector with a key for each item", api.Tree{Kind: api.KVec, Keys: []string{"a"}, Items: []api.Tree{odd}}, api.ErrArg},
		{"a vector with a key twice", api.Tree{Kind: api.KVec, Keys: []string{"a", "a"}}, api.ErrArg},
		{"a set with a number", api.Tree{Kind: api.KSet, Int: math.MinInt64}, api.ErrArg},
		{"a set with a text", api.Tree{Kind: api.KSet, Text: "\x00"}, api.ErrArg},
		{"a set with a key", api.Tree{Kind: api.KSet, Keys: []string{""}}, api.ErrArg},
		{"a set with a key, and a member twice", api.Tree{Kind: api.KSet, Keys: []string{"a", "b"}, Items: []api.Tree{null, null}}, api.ErrArg},
		{"a map with a number", api.Tree{Kind: api.KMap, Int: 1}, api.ErrArg},
		{"a map with a text", api.Tree{Kind: api.KMap, Text: "a", Keys: []string{"a", "a"}, Items: []api.Tree{null, null}}, api.ErrArg},
		{"a map with a key more", api.Tree{Kind: api.KMap, Keys: []string{"a", "b"}, Items: []api.Tree{null}}, api.ErrArg},
		{"a map with an item more", api.Tree{Kind: api.KMap, Keys: []string{"a"}, Items: []api.Tree{null, odd}}, api.ErrArg},
		{"a map with keys alone, twice", api.Tree{Kind: api.KMap, Keys: []string{"a", "a"}}, api.ErrArg},
		{"a map with items alone", api.Tree{Kind: api.KMap, Items: []api.Tree{null}}, api.ErrArg},
		{"a map with a key twice", dict("a a", null, null), api.ErrTwice},
		{"a map with a key twice, far apart", dict("c a b d c", null, number(1), number(2), null, number(3)), api.ErrTwice},
		{"a map with an empty key twice", api.Tree{Kind: api.KMap, Keys: []string{"", "a", ""}, Items: []api.Tree{null, null, null}}, api.ErrTwice},
		{"a map with a key twice, and wrong items", dict("a a", odd, odd), api.ErrTwice},
		{"keys that begin others", api.Tree{Kind: api.KMap, Keys: []string{"a", "", "aa", "a\x00", "A"}, Items: []api.Tree{null, null, null, null, null}}, api.OK},
		{"one thing at two keys", dict("b a", vec(null), vec(null)), api.OK},
		{"a vector with empty keys", api.Tree{Kind: api.KVec, Keys: []string{}, Items: []api.Tree{null}}, api.OK},
		{"a set with empty lists", api.Tree{Kind: api.KSet, Keys: []string{}, Items: []api.Tree{}}, api.OK},
	}
}

// wrongWithin are trees in which parts are wrong, or the same.
func wrongWithin() []wrong {
	null, odd, bad := api.Tree{}, api.Tree{Kind: 9}, api.Tree{Int: 1}
	one, two := number(1), number(2)
	return []wrong{
		{"a wrong item", vec(null, odd, bad), api.ErrKind},
		{"another wrong item", vec(null, bad, odd), api.ErrArg},
		{"a wrong item far down", vec(null, vec(dict("a b", set(null), set(boolean(7)))), odd), api.ErrRange},
		{"a wrong one at a key", dict("b a", odd, bad), api.ErrKind},
		{"a wrong one at another key", dict("b a", bad, odd), api.ErrArg},
		{"a wrong member", set(bad, odd), api.ErrArg},
		{"a wrong node ahead of its items", vec(api.Tree{Kind: api.KVec, Int: 1, Items: []api.Tree{odd}}), api.ErrArg},
		{"a member twice", set(one, one), api.ErrTwice},
		{"a member twice, far apart", set(one, two, null, one), api.ErrTwice},
		{"null twice", set(null, null), api.ErrTwice},
		{"a member twice, behind a wrong one", set(bad, one, one), api.ErrArg},
		{"a member twice, ahead of a wrong one", set(one, one, odd), api.ErrKind},
		{"a vector twice", set(vec(one), vec(), vec(one)), api.ErrTwice},
		{"an empty vector twice", set(vec(), api.Tree{Kind: api.KVec, Items: []api.Tree{}, Keys: []string{}}), api.ErrTwice},
		{"a set twice, in other orders", set(set(one, two), set(two, one)), api.ErrTwice},
		{"a map twice, in other orders", set(dict("a b", one, two), dict("b a", two, one)), api.ErrTwice},
		{"a map twice, far down", set(vec(vec(dict("a b c", one, set(one, two), null))), vec(vec(dict("c b a", null, set(two, one), one)))), api.ErrTwice},
		{"a map not twice", set(dict("a b", one, two), dict("b a", one, two)), api.OK},
		{"a vector in another order", set(vec(one, two), vec(two, one)), api.OK},
		{"a vector longer", set(vec(one), vec(one, null), vec()), api.OK},
		{"other kinds", set(null, boolean(0), number(0), text(""), vec(), dict(""), set()), api.OK},
		{"texts with noughts", set(text(""), text("\x00"), text("\x00\x00"), text("\x00\xff")), api.OK},
		{"a set within one, and its member", set(one, set(one), set(set(one))), api.OK},
		{"a member twice within a vector", vec(set(one, one), odd), api.ErrTwice},
		{"a member twice within a set", set(set(one, one), odd), api.ErrTwice},
		{"a member twice within a member twice", set(set(one, one), set(one, one)), api.ErrTwice},
		{"a key twice within a set", set(one, dict("a a", odd, odd), odd), api.ErrTwice},
		{"items are the same", vec(one, one, vec(one), vec(one)), api.OK},
	}
}

// inVecs lies in n vectors, each of one item, the innermost of which has t.
func inVecs(n int, t api.Tree) api.Tree {
	for range n {
		t = vec(t)
	}
	return t
}

// wrongAtLimits are trees about as deep, or with about as many nodes, as may be.
func wrongAtLimits() []wrong {
	null, odd := api.Tree{}, api.Tree{Kind: 9}
	with := func(t, x api.Tree) api.Tree { // t with x behind its items
		t.Items = append(slices.Clone(t.Items), x)
		return t
	}
	twiceMap := wideMap(20000)
	twiceMap.Keys[19998] = twiceMap.Keys[3]
	fullSet, overSet := wideSet(16384), wideSet(16385)
	fullSet.Items[16382], overSet.Items[16383] = fullSet.Items[5], overSet.Items[5]
	double := null
	for range 63 {
		double = vec(double, double)
	}
	return []wrong{
		{"depth 64", chain(64), api.OK},
		{"depth 65", chain(65), api.ErrDepth},
		{"depth 66", chain(66), api.ErrDepth},
		{"depth 5000", chain(5000), api.ErrDepth},
		{"64 vectors", inVecs(63, vec()), api.OK},
		{"65 vectors", inVecs(64, vec()), api.ErrDepth},
		{"64 sets", chainOf(api.KSet, 64), api.OK},
		{"65 sets", chainOf(api.KSet, 65), api.ErrDepth},
		{"64 maps", chainOf(api.KMap, 64), api.OK},
		{"65 maps", chainOf(api.KMap, 65), api.ErrDepth},
		{"wrong at depth 65", inVecs(64, odd), api.ErrDepth},
		{"wrong at depth 64", inVecs(63, odd), api.ErrKind},
		{"wrong at depth 64, ahead of its parts", inVecs(63, dict("a a", null, null)), api.ErrTwice},
		{"a member twice at depth 65", inVecs(63, set(null, null)), api.ErrDepth},
		{"a member twice at depth 64", inVecs(62, set(null, null)), api.ErrTwice},
		{"too deep ahead of a wrong one", vec(chain(64), odd), api.ErrDepth},
		{"too deep behind a wrong one", vec(odd, chain(64)), api.ErrKind},
		{"a member too deep, and others twice", set(null, null, chain(64)), api.ErrDepth},
		{"2^14 nodes", wide(16384), api.OK},
		{"2^14 and 1 nodes", wide(16385), api.ErrNodes},
		{"100000 nodes", wide(100000), api.ErrNodes},
		{"a map of 2^14 nodes", wideMap(16384), api.OK},
		{"a map of 2^14 and 1 nodes", wideMap(16385), api.ErrNodes},
		{"a set of 2^14 nodes", wideSet(16384), api.OK},
		{"a set of 2^14 and 1 nodes", wideSet(16385), api.ErrNodes},
		{"wrong as the last node that may be", with(wide(16383), odd), api.ErrKind},
		{"wrong as the first node that may not be", with(wide(16384), odd), api.ErrNodes},
		{"wrong, with too many nodes behind", vec(odd, wide(20000)), api.ErrKind},
		{"wrong, with too many nodes ahead", vec(wide(20000), odd), api.ErrNodes},
		{"a key twice of too many", twiceMap, api.ErrTwice},
		{"a member twice of as many as may be", fullSet, api.ErrTwice},
		{"a member twice of too many", overSet, api.ErrNodes},
		{"two halves", vec(wide(8191), wide(8192)), api.OK},
		{"two halves, and one", vec(wide(8192), wide(8192)), api.ErrNodes},
		{"too deep at the first node that may not be", with(wide(16384-64+1), inVecs(63, null)), api.ErrDepth},
		{"not too deep there", with(wide(16384-64+2), inVecs(63, null)), api.ErrNodes},
		{"each twice what lies in it", double, api.ErrNodes},
		{"each twice what lies in it, and too deep", vec(double), api.ErrDepth},
	}
}

// chainOf is a chain of values of that kind, n deep.
func chainOf(kind, n int) api.Tree {
	t := api.Tree{Kind: kind}
	for range n - 1 {
		c := api.Tree{Kind: kind, Items: []api.Tree{t}}
		if kind == api.KMap {
			c.Keys = []string{"k"}
		}
		t = c
	}
	return t
}

// P11.1.
func TestCheck(t *testing.T) {
	for _, x := range slices.Concat(wrongAlone(), wrongWithin(), wrongAtLimits()) {
		if e := Check(x.t); e != x.e {
			t.Errorf("Check of %s: %d; want %d", x.name, e, x.e)
		}
		for i, c := range confs() {
			if len(x.t.Items) > 1000 && i > 1 {
				break // what has many keys takes long to build with few bits
			}
			v, e := Of(c, x.t)
			if e != x.e || e != api.OK && v != (Value{}) {
				t.Errorf("Of of %s: %d; want %d", x.name, e, x.e)
			}
			if e == api.OK && len(x.t.Items) < 1000 {
				checkOne(t, x.name, v, canonical(x.t))
			}
		}
	}
}

// P11.1: whatever is wrong in a tree of many nodes, the first of it is told.
func TestCheckOfDamaged(t *testing.T) {
	draw := drawer()
	right, told := 0, map[api.Errno]int{}
	for range 6000 {
		x := drawn(draw, 5)
		for range draw(3) {
			x = damaged(x, draw)
		}
		seen := 0
		want := wrongOf(x, 1, &seen)
		if e := Check(x); e != want {
			t.Fatalf("Check(%v): %d; want %d", x, e, want)
		}
		v, e := Of(api.Conf{Seed: 3, Bits: 5}, x)
		checkAnswer(t, "Of", v, e, canonicalIf(x, want), want)
		if want == api.OK {
			right++
		}
		told[want]++
	}
	if right < 1000 || told[api.ErrTwice] < 100 || told[api.ErrArg] < 100 || told[api.ErrKind] < 100 || told[api.ErrRange] < 20 {
		t.Errorf("of all trees %v had these errors", told)
	}
}

// canonicalIf is canonical of t, if that is right.
func canonicalIf(t api.Tree, e api.Errno) api.Tree {
	if e != api.OK {
		return api.Tree{}
	}
	return canonical(t)
}

// damaged is t with something changed somewhere, perhaps so that it is wrong, in memory of its own.
func damaged(t api.Tree, draw func(int) int) api.Tree {
	t.Keys, t.Items = slices.Clone(t.Keys), slices.Clone(t.Items)
	if len(t.Items) > 0 && draw(4) > 0 {
		i := draw(len(t.Items))
		t.Items[i] = damaged(t.Items[i], draw)
		return t
	}
	if t.Kind == api.KBool && draw(2) == 0 {
		t.Int -= 2
		return t
	}
	switch draw(8) {
	case 0:
		t.Kind = []int{-1, 0, 2, 3, 4, 5, 6, 7, 8}[draw(9)]
	case 1:
		t.Int += 1 + int64(draw(2))
	case 2:
		t.Text += "a"
	case 3:
		t.Keys = append(t.Keys, "a")
	case 4:
		t.Items = append(t.Items, api.Tree{})
	case 5:
		if len(t.Keys) > 0 {
			t.Keys[draw(len(t.Keys))] = "a"
		}
	default:
		if len(t.Items) > 0 {
			t.Items = append(t.Items, shuffled(t.Items[draw(len(t.Items))], draw))
		}
		if t.Kind == api.KMap {
			t.Keys = append(t.Keys, "new")
		}
	}
	return t
}

// P11.2, P11.5: whatever order a tree has, and whatever the Conf is, what is asked is the same.
func TestAsked(t *testing.T) {
	draw := drawer()
	for _, x := range someTrees(400) {
		want := canonical(x)
		for _, c := range confs() {
			check(t, "of a tree", of(t, c, x), want)
			check(t, "of another order", of(t, c, shuffled(x, draw)), want)
		}
		check(t, "of the canonical one", of(t, api.Conf{Bits: 3}, want), want)
	}
}

// P11.2: keys, reckoned by hand.
func TestKey(t *testing.T) {
	for _, x := range []struct {
		t   api.Tree
		key string // as hexadecimal digits
	}{
		{api.Tree{}, "01"},
		{boolean(0), "0200"},
		{boolean(1), "0201"},
		{number(-1), "037fffffffffffffff"},
		{text("a\x00"), "046100ff0000"},
		{vec(), "0500"},
		{dict(""), "0600"},
		{set(), "0700"},
		{vec(api.Tree{}, boolean(1)), "0501020100"},
		{vec(vec(), vec(vec())), "050500050500" + "0000"},
		{dict("a", api.Tree{}), "06046100000100"},
		{dict("b a", boolean(1), boolean(0)), "06046100000200" + "046200000201" + "00"},
		{api.Tree{Kind: api.KMap, Keys: []string{"\x00", ""}, Items: []api.Tree{{}, vec()}}, "060400000500" + "0400ff000001" + "00"},
		{set(boolean(1), api.Tree{}, boolean(0)), "0701020002" + "0100"},
		{set(set(), dict(""), vec(), text(""), api.Tree{}), "0701040000050006000700" + "00"},
		{set(vec(boolean(1)), vec(), vec(boolean(1), api.Tree{})), "070500" + "05020100" + "0502010100" + "00"},
		{set(set(boolean(1), boolean(0)), set(boolean(0))), "0707020000" + "070200020100" + "00"},
		{vec(text("\x00")), "050400ff000000"},
	} {
		for _, c := range confs() {
			if k := hex.EncodeToString([]byte(of(t, c, x.t).Key())); k != x.key {
				t.Errorf("Key of %v: %s; want %s", x.t, k, x.key)
			}
		}
	}
}

// P11.7: a key tells the tree, and begins no other one; trees of which one has another order have one key, others have others.
func TestKeysAreApart(t *testing.T) {
	var keys []string
	var trees []api.Tree
	for _, x := range someTrees(500) {
		c := canonical(x)
		k := of(t, api.Conf{Seed: 1, Bits: 64}, x).Key()
		if back, rest := told(k + "\x01\x00\xff"); !equal(back, c) || rest != "\x01\x00\xff" {
			t.Errorf("%x tells %v; want %v", k, back, c)
		}
		keys, trees = append(keys, k), append(trees, c)
	}
	for i, a := range keys {
		for k, b := range keys {
			if same := equal(trees[i], trees[k]); strings.HasPrefix(a, b) != same || (a == b) != same {
				t.Fatalf("the keys %x and %x of %v and %v", a, b, trees[i], trees[k])
			}
		}
	}
}

// oddSteps are steps that may lead nowhere, whatever the value, and such with more than their Kinds need.
func oddSteps(t api.Tree) []api.Step {
	n := len(t.Items)
	l := []api.Step{{Kind: -1}, {Kind: 3}, {Kind: math.MaxInt, Text: "a"}, {Kind: math.MinInt}, {Kind: 1 << 32},
		index(-1), index(n), index(n + 1), index(-n), index(n - 1<<32), index(n - 1 + 1<<32), index(math.MaxInt), index(math.MinInt),
		key("no key"), key(""), key("a"), key("a\x00"), key("aa"), {Kind: api.StMember}, {Kind: api.StMember, Text: "a"}, {Kind: api.StMember, Text: "\x00"},
		member(api.Tree{}), member(number(77)), member(vec()), {Kind: api.StMember, Text: "\x01\x01"}, {Kind: api.StMember, Text: keyOf(vec())[:1]}}
	for _, s := range stepsOf(t) {
		l = append(l, s)
		if s.Kind == api.StIndex {
			s.Text = "not looked at"
		} else {
			s.Int = -9
		}
		l = append(l, s)
		s.Kind = (s.Kind + 1) % 3
		l = append(l, s)
		s.Kind += 3
		l = append(l, s)
	}
	return l
}

// places are numbers, some of which are places of n items, or ends of a piece of them.
func places(n int) []int {
	return []int{0, 1, 2, n - 1, n, n + 1, -1, -2, -n, -n - 1, n / 2, math.MaxInt, math.MinInt, n + 1<<32, 1 << 32, -1 << 32}
}

// askAll asks v and w, which are those of the canonical trees a and b, for all that comes of them, step by step.
func askAll(t *testing.T, v Value, a api.Tree, w Value, b api.Tree) {
	t.Helper()
	for _, s := range oddSteps(a) {
		name := short(a) + ", " + strconv.Itoa(s.Kind) + " " + strconv.Itoa(s.Int) + " " + strconv.Quote(s.Text) + ", " + short(b)
		got, e := v.Get(s)
		want, wantE := getOf(a, s)
		checkAnswer(t, "Get of "+name, got, e, want, wantE)
		got, e = v.Set(s, w)
		want, wantE = setOf(a, s, b)
		checkAnswer(t, "Set of "+name, got, e, want, wantE)
		got, e = v.Cut(s)
		want, wantE = cutOf(a, s)
		checkAnswer(t, "Cut of "+name, got, e, want, wantE)
	}
	for _, i := range places(len(a.Items)) {
		name := short(a) + ", " + strconv.Itoa(i) + ", " + short(b)
		got, e := v.Insert(i, w)
		want, wantE := insertOf(a, i, b)
		checkAnswer(t, "Insert of "+name, got, e, want, wantE)
		for _, k := range places(len(a.Items)) {
			got, e = v.Slice(i, k)
			want, wantE = sliceOf(a, i, k)
			checkAnswer(t, "Slice of "+name+" to "+strconv.Itoa(k), got, e, want, wantE)
		}
	}
	got, e := v.Add(w)
	want, wantE := addOf(a, b)
	checkAnswer(t, "Add of "+short(a)+", "+short(b), got, e, want, wantE)
	got, e = Concat(v, w)
	want, wantE = concatOf(a, b)
	checkAnswer(t, "Concat of "+short(a)+", "+short(b), got, e, want, wantE)
	checkOne(t, "the first one", v, a)
	checkOne(t, "the second one", w, b)
}

// P11.2, P11.3: all changes of values of all kinds, by values of all kinds; they leave both as they were (P11.4).
func TestChanged(t *testing.T) {
	trees := someTrees(60)
	draw := drawer()
	for i, x := range trees {
		a := canonical(x)
		v := of(t, confs()[i%len(confs())], x)
		for range 6 {
			k := draw(len(trees))
			b := canonical(trees[k])
			askAll(t, v, a, of(t, confs()[k%len(confs())], trees[k]), b)
		}
		if len(a.Items) > 0 { // what is there already
			last := a.Items[len(a.Items)-1]
			askAll(t, v, a, of(t, api.Conf{Bits: 9}, shuffled(last, draw)), last)
		}
		askAll(t, v, a, v, a)
	}
}

// P11.2, P11.3: errors, each ahead of those that are named behind it.
func TestErrors(t *testing.T) {
	c := api.Conf{Seed: 4, Bits: 64}
	deep, much := of(t, c, chain(64)), of(t, c, wide(16384))
	both := of(t, c, vec(chain(63), wide(16384-64)))
	plain, v, m, s := of(t, c, text("a")), of(t, c, vec(number(1))), of(t, c, dict("a", number(1))), of(t, c, set(number(1)))
	one := member(number(1))
	for _, x := range []struct {
		name string
		do   func(x Value) (Value, api.Errno)
		e    api.Errno
		then api.Errno // where e is OK: of what is as deep as may be, within another one
		many api.Errno // likewise of what has as many nodes
	}{
		{"Set of no step", func(x Value) (Value, api.Errno) { return s.Set(api.Step{Kind: 3}, x) }, api.ErrArg, 0, 0},
		{"Set of no step, of a scalar", func(x Value) (Value, api.Errno) { return plain.Set(api.Step{Kind: -1}, x) }, api.ErrArg, 0, 0},
		{"Set of a scalar", func(x Value) (Value, api.Errno) { return plain.Set(index(0), x) }, api.ErrKind, 0, 0},
		{"Set of a key of a vector", func(x Value) (Value, api.Errno) { return v.Set(key("a"), x) }, api.ErrKind, 0, 0},
		{"Set of an item of a map", func(x Value) (Value, api.Errno) { return m.Set(index(0), x) }, api.ErrKind, 0, 0},
		{"Set of an item of a set", func(x Value) (Value, api.Errno) { return s.Set(index(0), x) }, api.ErrKind, 0, 0},
		{"Set of a key of a set", func(x Value) (Value, api.Errno) { return s.Set(key("a"), x) }, api.ErrKind, 0, 0},
		{"Set of a member of a map", func(x Value) (Value, api.Errno) { return m.Set(one, x) }, api.ErrKind, 0, 0},
		{"Set of a member", func(x Value) (Value, api.Errno) { return s.Set(one, x) }, api.ErrSet, 0, 0},
		{"Set of what is no member", func(x Value) (Value, api.Errno) { return s.Set(member(number(2)), x) }, api.ErrSet, 0, 0},
		{"Set of no item", func(x Value) (Value, api.Errno) { return v.Set(index(1), x) }, api.ErrNone, 0, 0},
		{"Set of an item below 0", func(x Value) (Value, api.Errno) { return v.Set(index(-1), x) }, api.ErrNone, 0, 0},
		{"Set of an item", func(x Value) (Value, api.Errno) { return v.Set(index(0), x) }, api.OK, api.ErrDepth, api.ErrNodes},
		{"Set of a key", func(x Value) (Value, api.Errno) { return m.Set(key("a"), x) }, api.OK, api.ErrDepth, api.ErrNodes},
		{"Set of a new key", func(x Value) (Value, api.Errno) { return m.Set(key("b"), x) }, api.OK, api.ErrDepth, api.ErrNodes},
		{"Insert of a scalar", func(x Value) (Value, api.Errno) { return plain.Insert(0, x) }, api.ErrKind, 0, 0},
		{"Insert of a map", func(x Value) (Value, api.Errno) { return m.Insert(9, x) }, api.ErrKind, 0, 0},
		{"Insert of a set", func(x Value) (Value, api.Errno) { return s.Insert(-1, x) }, api.ErrKind, 0, 0},
		{"Insert behind", func(x Value) (Value, api.Errno) { return v.Insert(2, x) }, api.ErrRange, 0, 0},
		{"Insert ahead", func(x Value) (Value, api.Errno) { return v.Insert(-1, x) }, api.ErrRange, 0, 0},
		{"Insert", func(x Value) (Value, api.Errno) { return v.Insert(1, x) }, api.OK, api.ErrDepth, api.ErrNodes},
		{"Add of a scalar", func(x Value) (Value, api.Errno) { return plain.Add(x) }, api.ErrKind, 0, 0},
		{"Add of a vector", func(x Value) (Value, api.Errno) { return v.Add(x) }, api.ErrKind, 0, 0},
		{"Add of a map", func(x Value) (Value, api.Errno) { return m.Add(x) }, api.ErrKind, 0, 0},
		{"Add", func(x Value) (Value, api.Errno) { return s.Add(x) }, api.OK, api.ErrDepth, api.ErrNodes},
		{"Concat of a scalar", func(x Value) (Value, api.Errno) { return Concat(plain, x) }, api.ErrKind, 0, 0},
		{"Concat to a scalar", func(x Value) (Value, api.Errno) { return Concat(x, plain) }, api.ErrKind, 0, 0},
		{"Concat to a map", func(x Value) (Value, api.Errno) { return Concat(x, m) }, api.ErrKind, 0, 0},
		{"Concat to a set", func(x Value) (Value, api.Errno) { return Concat(x, s) }, api.ErrKind, 0, 0},
		{"Slice of a scalar", func(x Value) (Value, api.Errno) { return plain.Slice(0, 1) }, api.ErrKind, 0, 0},
		{"Slice of a map", func(x Value) (Value, api.Errno) { return m.Slice(0, 1) }, api.ErrKind, 0, 0},
		{"Slice of a set", func(x Value) (Value, api.Errno) { return s.Slice(0, 1) }, api.ErrKind, 0, 0},
		{"Cut of no step", func(x Value) (Value, api.Errno) { return plain.Cut(api.Step{Kind: 9}) }, api.ErrArg, 0, 0},
		{"Cut of a key of a vector", func(x Value) (Value, api.Errno) { return v.Cut(key("a")) }, api.ErrKind, 0, 0},
		{"Cut of no item", func(x Value) (Value, api.Errno) { return v.Cut(index(1)) }, api.ErrNone, 0, 0},
		{"Cut of no key", func(x Value) (Value, api.Errno) { return m.Cut(key("")) }, api.ErrNone, 0, 0},
		{"Cut of no member", func(x Value) (Value, api.Errno) { return s.Cut(member(api.Tree{})) }, api.ErrNone, 0, 0},
	} {
		if x.e != api.OK {
			x.then, x.many = x.e, x.e
		}
		for _, y := range []struct {
			what string
			x    Value
			e    api.Errno
		}{{"null", Value{}, x.e}, {"too deep", deep, x.then}, {"too much", much, x.many}, {"too deep, and too much", both, x.then}} {
			if got, e := x.do(y.x); e != y.e || e != api.OK && got != (Value{}) {
				t.Errorf("%s, %s: error %d; want %d", x.name, y.what, e, y.e)
			}
		}
	}
}

// nested is a value of that kind whose one part, at the key k or the place 0, is x.
func nested(t *testing.T, kind int, x api.Tree) Value {
	t.Helper()
	one := api.Tree{Kind: kind, Items: []api.Tree{x}}
	if kind == api.KMap {
		one.Keys = []string{"k"}
	}
	return of(t, api.Conf{Seed: 2, Bits: 64}, one)
}

// P11.3: what comes out may be just as deep, and have just as many nodes, as a value may.
func TestChangedAtTheLimits(t *testing.T) {
	c := api.Conf{Seed: 2, Bits: 64}
	answer := func(name string, want api.Errno) func(v Value, e api.Errno) {
		return func(v Value, e api.Errno) {
			t.Helper()
			if e != want || e != api.OK && v != (Value{}) {
				t.Errorf("%s: error %d; want %d", name, e, want)
			}
			if e == api.OK && (v.Depth() != depthOf(v.Tree()) || v.Nodes() != nodesOf(v.Tree())) {
				t.Errorf("%s: depth %d, %d nodes", name, v.Depth(), v.Nodes())
			}
		}
	}
	for _, x := range []struct {
		name string
		x    api.Tree
		e    api.Errno // of a value of one part, null, that has x, too
	}{
		{"depth 63", chain(63), api.OK},
		{"depth 64", chain(64), api.ErrDepth},
		{"2^14 - 2 nodes", wide(16382), api.OK},
		{"2^14 - 1 nodes", wide(16383), api.ErrNodes},
		{"a full map", wideMap(16382), api.OK},
		{"more than a full map", wideMap(16383), api.ErrNodes},
		{"depth 64 and too many nodes", vec(chain(63), wide(16384-64)), api.ErrDepth},
	} {
		w := of(t, c, x.x)
		answer("Insert of "+x.name, x.e)(nested(t, api.KVec, api.Tree{}).Insert(1, w))
		answer("Set of "+x.name, x.e)(nested(t, api.KMap, api.Tree{}).Set(key("new"), w))
		answer("Add of "+x.name, x.e)(nested(t, api.KSet, api.Tree{}).Add(w))
	}
	for _, x := range []struct {
		name   string
		was, x api.Tree
		e      api.Errno // of a value of one part, was, that has x instead
	}{
		{"a full one by another one", wide(16383), wideMap(16383), api.OK},
		{"a full one by one too much", wide(16383), wideMap(16384), api.ErrNodes},
		{"a deep one by another one", chain(63), chainOf(api.KMap, 63), api.OK},
		{"a deep one by one too deep", chain(63), chainOf(api.KMap, 64), api.ErrDepth},
		{"a deep one by a full one", chain(63), wide(16383), api.OK},
		{"a full one by a deep one", wide(16383), chain(63), api.OK},
		{"null by one too much", api.Tree{}, wide(16384), api.ErrNodes},
	} {
		answer(x.name, x.e)(nested(t, api.KVec, x.was).Set(index(0), of(t, c, x.x)))
		answer(x.name+", at a key", x.e)(nested(t, api.KMap, x.was).Set(key("k"), of(t, c, x.x)))
	}
	half := of(t, c, wide(8192))
	answer("two halves", api.OK)(Concat(half, of(t, c, wide(8193))))
	answer("two halves, and one", api.ErrNodes)(Concat(half, of(t, c, wide(8194))))
	answer("nothing to a full one", api.OK)(Concat(of(t, c, vec()), of(t, c, wide(16384))))
	answer("two deep ones", api.OK)(Concat(of(t, c, inVecs(63, vec())), of(t, c, inVecs(63, vec()))))
	full := of(t, c, wideSet(16384))
	answer("a member of a full one", api.OK)(full.Add(of(t, c, number(4))))
	answer("no member of a full one", api.ErrNodes)(full.Add(of(t, c, number(5))))
	answer("a full one cut", api.OK)(full.Cut(member(number(4))))
	if v, _ := full.Add(of(t, c, number(4))); v.Key() != full.Key() || v.Nodes() != 16384 {
		t.Errorf("a member of a full one, again: %d nodes", v.Nodes())
	}
	answer("a piece of a full one", api.OK)(of(t, c, wide(16384)).Slice(0, math.MaxInt))
}

// P11.6: depth and nodes, where the deepest of many parts come and go.
func TestCounted(t *testing.T) {
	draw := drawer()
	c := api.Conf{Seed: 6, Bits: 64}
	for kind := api.KVec; kind <= api.KSet; kind++ {
		v, want := of(t, c, api.Tree{Kind: kind}), api.Tree{Kind: kind}
		deepest := 0
		for n := range 1500 {
			x := inVecs([]int{0, 0, 0, 1, 2, 5, 20, 62}[draw(8)], number(int64(draw(3))))
			if n%4 > 1 && len(want.Items) > 0 || len(want.Items) > 12 {
				s := stepsOf(want)[draw(len(want.Items))]
				v, want = good(t)(v.Cut(s)), first(cutOf(want, s))
			} else {
				w := of(t, c, x)
				switch kind {
				case api.KVec:
					i := draw(len(want.Items) + 1)
					v, want = good(t)(v.Insert(i, w)), first(insertOf(want, i, x))
				case api.KMap:
					k := key(someTexts()[draw(len(someTexts()))])
					v, want = good(t)(v.Set(k, w)), first(setOf(want, k, x))
				case api.KSet:
					v, want = good(t)(v.Add(w)), first(addOf(want, x))
				}
			}
			checkOne(t, "counted", v, want)
			deepest = max(deepest, v.Depth())
		}
		if deepest < 60 {
			t.Errorf("no value of kind %d got deeper than %d", kind, deepest)
		}
	}
}

// first is t, whatever the error.
func first(t api.Tree, _ api.Errno) api.Tree {
	return t
}

// version is a value, and what it must be.
type version struct {
	v    Value
	want api.Tree
}

// changedAnyhow is any change of of by any of all; itself, if it has an error.
func changedAnyhow(t *testing.T, of version, all []version, draw func(int) int) version {
	t.Helper()
	x := all[draw(len(all))]
	s := api.Step{Kind: of.want.Kind - api.KVec, Int: draw(len(of.want.Items) + 1), Text: someTexts()[draw(len(someTexts()))]}
	if l := stepsOf(of.want); len(l) > 0 && draw(3) > 0 {
		s = l[draw(len(l))]
	}
	var v Value
	var want api.Tree
	var e, wantE api.Errno
	switch draw(7) {
	case 0, 1:
		v, e = of.v.Set(s, x.v)
		want, wantE = setOf(of.want, s, x.want)
	case 2:
		v, e = of.v.Insert(s.Int, x.v)
		want, wantE = insertOf(of.want, s.Int, x.want)
	case 3:
		v, e = of.v.Cut(s)
		want, wantE = cutOf(of.want, s)
	case 4:
		v, e = of.v.Add(x.v)
		want, wantE = addOf(of.want, x.want)
	case 5:
		lo, hi := draw(5)-2, draw(9)-3
		v, e = of.v.Slice(lo, hi)
		want, wantE = sliceOf(of.want, lo, hi)
	case 6:
		v, e = Concat(of.v, x.v)
		want, wantE = concatOf(of.want, x.want)
	}
	checkAnswer(t, "changed anyhow", v, e, want, wantE)
	if e != api.OK || nodesOf(want) > 150 {
		return of
	}
	return version{v, want}
}

// P11.4: many values, each made of any ahead of it, are in the end what they were when they were made.
func TestLasting(t *testing.T) {
	for _, c := range confs() {
		draw := drawer()
		var all []version
		for _, x := range someTrees(30) {
			if depthOf(x) < 20 {
				all = append(all, version{of(t, c, x), canonical(x)})
			}
		}
		deepest, most := 0, 0
		for range 1500 {
			from := all[draw(len(all))]
			if draw(3) > 0 { // mostly a late one, so that values get great
				from = all[len(all)-1-draw(min(len(all), 6))]
			}
			all = append(all, changedAnyhow(t, from, all, draw))
		}
		for _, x := range all {
			checkOne(t, "one of many", x.v, x.want)
			deepest, most = max(deepest, x.v.Depth()), max(most, x.v.Nodes())
		}
		if deepest < 6 || most < 80 {
			t.Errorf("no value got deeper than %d, or more nodes than %d", deepest, most)
		}
	}
}

// P11.4: what is made of one value leaves the others alone.
func TestMadeOfOne(t *testing.T) {
	for _, c := range confs() {
		v := of(t, c, wide(40))
		m, s := of(t, c, wideMap(40)), of(t, c, wideSet(40))
		x, y := of(t, c, text("x")), of(t, c, text("y"))
		for i := range 39 {
			a, b := good(t)(v.Set(index(i), x)), good(t)(v.Set(index(i), y))
			if p, _ := a.Get(index(i)); p.Key() != x.Key() {
				t.Fatalf("the item %d was set anew", i)
			}
			checkAnswer(t, "set", b, api.OK, first(setOf(wide(40), index(i), text("y"))), api.OK)
			k := key(wideMap(40).Keys[i])
			a, b = good(t)(m.Set(k, x)), good(t)(m.Cut(k))
			checkAnswer(t, "cut", b, api.OK, first(cutOf(canonical(wideMap(40)), k)), api.OK)
			checkAnswer(t, "set at a key", a, api.OK, first(setOf(canonical(wideMap(40)), k, text("x"))), api.OK)
			a, b = good(t)(s.Add(x)), good(t)(s.Add(y))
			checkAnswer(t, "added", a, api.OK, first(addOf(canonical(wideSet(40)), text("x"))), api.OK)
			checkAnswer(t, "added, too", b, api.OK, first(addOf(canonical(wideSet(40)), text("y"))), api.OK)
		}
		checkOne(t, "the vector", v, wide(40))
		checkOne(t, "the map", m, canonical(wideMap(40)))
		checkOne(t, "the set", s, canonical(wideSet(40)))
	}
}

// P11.5: a value put together part by part, in any order, with others that come and go, is that of its tree.
func TestPutTogether(t *testing.T) {
	draw := drawer()
	for i, x := range someTrees(300) {
		want := canonical(x)
		for _, c := range confs() {
			v := together(t, c, shuffled(want, draw), draw)
			checkOne(t, "put together", v, want)
			if k := of(t, confs()[i%len(confs())], x).Key(); v.Key() != k {
				t.Fatalf("Key %x; of the tree it is %x", v.Key(), k)
			}
		}
	}
}

// together is the value of x, put together part by part.
func together(t *testing.T, c api.Conf, x api.Tree, draw func(int) int) Value {
	t.Helper()
	if x.Kind < api.KVec {
		return good(t)(Plain(api.Scalar{Kind: x.Kind, Int: x.Int, Text: x.Text}))
	}
	v := of(t, c, api.Tree{Kind: x.Kind})
	for i, item := range x.Items {
		part := together(t, c, item, draw)
		switch x.Kind {
		case api.KVec:
			v = withItem(t, v, i, part, draw)
		case api.KMap:
			v = good(t)(v.Set(key("to be cut"), part))
			v = good(t)(v.Set(key(x.Keys[i]), Value{}))
			v = good(t)(v.Set(key(x.Keys[i]), part))
			v = good(t)(v.Cut(key("to be cut")))
		case api.KSet:
			v = good(t)(v.Add(part))
			v = good(t)(v.Add(part))
			if draw(2) == 0 {
				v = good(t)(v.Cut(member(item)))
				v = good(t)(v.Add(part))
			}
		}
	}
	return v
}

// withItem is the vector v, of n items, with part behind them, in one of several ways.
func withItem(t *testing.T, v Value, n int, part Value, draw func(int) int) Value {
	t.Helper()
	switch draw(4) {
	case 0:
		v = good(t)(v.Insert(n, Value{}))
		return good(t)(v.Set(index(n), part))
	case 1:
		v = good(t)(v.Insert(n, part))
		v = good(t)(v.Insert(0, part))
		return good(t)(v.Cut(index(0)))
	case 2:
		one := good(t)(of(t, api.Conf{}, vec()).Insert(0, part))
		v = good(t)(Concat(v, good(t)(Concat(one, one))))
		return good(t)(v.Slice(0, -1))
	}
	return good(t)(v.Insert(n, part))
}

// P11.5: values of all Confs, to which the same is done, are the same; parts of one are parts of others.
func TestConfsAgree(t *testing.T) {
	l := confs()
	vs := make([]Value, len(l))
	for i, c := range l {
		vs[i] = of(t, c, dict("a b", set(), vec()))
	}
	draw := drawer()
	trees := someTrees(50)
	for range 300 {
		x := trees[draw(len(trees))]
		if depthOf(x) > 9 {
			continue
		}
		k := key(someTexts()[draw(len(someTexts()))])
		for i, c := range l {
			w := of(t, l[(i+1)%len(l)], shuffled(x, drawer()))
			s := good(t)(vs[i].Get(key("a")))
			s = good(t)(s.Add(w))
			vs[i] = good(t)(vs[i].Set(key("a"), of(t, c, s.Tree())))
			vs[i] = good(t)(vs[i].Set(k, w))
			if k.Text == "a" {
				vs[i] = good(t)(vs[i].Set(k, of(t, c, set())))
			}
		}
		for _, v := range vs {
			if v.Key() != vs[0].Key() || v.Depth() != vs[0].Depth() || v.Nodes() != vs[0].Nodes() {
				t.Fatalf("%x, and %x", v.Key(), vs[0].Key())
			}
		}
	}
	check(t, "in the end", vs[1], vs[0].Tree())
}

// P11.1: all maps and sets in a value are built with its Conf, and stay so when they are changed.
func TestBuiltWithConf(t *testing.T) {
	for _, c := range confs() {
		for _, x := range someTrees(60) {
			v := of(t, c, x)
			checkConf(t, v, c)
			switch other := of(t, api.Conf{Seed: 77, Bits: 7}, number(12345)); v.Kind() {
			case api.KMap:
				checkConf(t, good(t)(v.Set(key("new"), other)), c)
				checkConf(t, good(t)(good(t)(v.Set(key("new"), other)).Cut(key("new"))), c)
			case api.KSet:
				checkConf(t, good(t)(v.Add(other)), c)
			}
		}
	}
}

// checkConf looks at how the maps and sets are built that v is, or that lie in it.
func checkConf(t *testing.T, v Value, c api.Conf) {
	t.Helper()
	for _, x := range v.parts() {
		checkConf(t, x, c)
	}
	if v.Kind() > api.KVec && v.inner.named.Conf() != c {
		t.Errorf("%x is built with %v; want %v", v.Key(), v.inner.named.Conf(), c)
	}
}

// P11.2, R3: what is answered is memory of its own; whoever gets it may write into it, and behind it.
func TestAnswersAreOwn(t *testing.T) {
	for _, x := range someTrees(100) {
		v := of(t, api.Conf{Seed: 8, Bits: 64}, x)
		a, b := v.Tree(), v.Tree()
		steps, more := v.Steps(), v.Steps()
		spoil(a)
		for i := range steps {
			steps[i] = api.Step{Kind: 9}
		}
		steps = append(steps[:len(steps)/2], api.Step{}, api.Step{})
		if !equal(b, canonical(x)) || !slices.Equal(more, stepsOf(canonical(x))) {
			t.Errorf("two answers share: %v", b)
		}
		checkOne(t, "itself", v, canonical(x))
		if len(steps) < 2 {
			t.Error("no steps")
		}
	}
}

// spoil writes into all lists of t, and behind them.
func spoil(t api.Tree) {
	for i := range t.Items {
		spoil(t.Items[i])
		t.Items[i] = text("spoilt")
	}
	for i := range t.Keys {
		t.Keys[i] = "spoilt"
	}
	_ = append(t.Items, api.Tree{Kind: 9})
	_ = append(t.Keys, "spoilt")
	if len(t.Items) > 0 {
		_ = append(t.Items[:0], text("spoilt"))
	}
}

// P11.1, R3: the tree that is handed in is neither kept nor changed.
func TestTreesAreNotKept(t *testing.T) {
	for _, x := range someTrees(100) {
		handed := shuffled(x, drawer())
		was := shuffled(x, drawer())
		if Check(handed) != api.OK || !equal(handed, was) {
			t.Errorf("Check wrote into %v", handed)
		}
		v := of(t, api.Conf{Seed: 8, Bits: 64}, handed)
		if !equal(handed, was) {
			t.Errorf("Of wrote into %v", handed)
		}
		spoil(handed)
		check(t, "made of what was written into", v, canonical(x))
	}
}

// P1, R4: the same is answered once more, whatever was asked between.
func TestTheSameOnceMore(t *testing.T) {
	trees := someTrees(80)
	ask := func(i int) string {
		c := confs()[i%len(confs())]
		v, w := of(t, c, trees[i]), of(t, c, trees[len(trees)-1-i])
		var b strings.Builder
		tell := func(x Value, e api.Errno) {
			b.WriteString(strconv.Itoa(int(e)) + x.Key() + strconv.Itoa(x.Depth()) + "," + strconv.Itoa(x.Nodes()))
			for _, s := range x.Steps() {
				b.WriteString(strconv.Itoa(s.Kind) + "," + strconv.Itoa(s.Int) + s.Text)
			}
		}
		tell(v, api.OK)
		tell(v.Set(index(0), w))
		tell(v.Set(key("a"), w))
		tell(v.Cut(key("a")))
		tell(v.Insert(1, w))
		tell(v.Add(w))
		tell(v.Slice(1, -1))
		tell(Concat(v, w))
		return b.String()
	}
	var l []string
	for i := range trees {
		l = append(l, ask(i))
	}
	for i := range slices.Backward(trees) {
		if ask(i) != l[i] {
			t.Errorf("other answers of %v", trees[i])
		}
	}
}

// P11.2: whoever goes through the parts may stop.
func TestPartsMayBeLeft(t *testing.T) {
	for _, x := range []api.Tree{wide(40), wideMap(40), wideSet(40), {}, vec()} {
		v := of(t, api.Conf{Seed: 1, Bits: 64}, x)
		steps := stepsOf(canonical(x))
		for n := range steps {
			var l []api.Step
			for s := range v.parts() {
				if l = append(l, s); len(l) == n+1 {
					break
				}
			}
			if !slices.Equal(l, steps[:n+1]) {
				t.Errorf("%d of %s: %v", n+1, short(x), l)
			}
		}
	}
}

// Bound: as many parts as may be, one after the other.
func TestMany(t *testing.T) {
	for _, x := range []struct{ bits, n int }{{64, 16384}, {0, 1500}} {
		c := api.Conf{Seed: 3, Bits: x.bits}
		v, m, s := of(t, c, vec()), of(t, c, dict("")), of(t, c, set())
		keys := wideMap(x.n).Keys
		for i := range x.n - 1 {
			n := of(t, c, number(int64(i)))
			v = good(t)(v.Insert(i/2, n))
			m = good(t)(m.Set(key(keys[len(keys)-1-i]), n))
			s = good(t)(s.Add(n))
		}
		for _, w := range []Value{v, m, s} {
			if w.Len() != x.n-1 || w.Nodes() != x.n || w.Depth() != 2 || len(w.Steps()) != x.n-1 || nodesOf(w.Tree()) != x.n {
				t.Errorf("%d parts, %d nodes, depth %d", w.Len(), w.Nodes(), w.Depth())
			}
			if again := of(t, c, w.Tree()); again.Key() != w.Key() {
				t.Error("its tree is another one")
			}
		}
		for i := range x.n - 1 {
			v = good(t)(v.Cut(index((x.n - 2 - i) / 3)))
			m = good(t)(m.Cut(key(keys[i])))
			s = good(t)(s.Cut(member(number(int64(i)))))
		}
		for _, w := range []Value{v, m, s} {
			checkOne(t, "nothing left", w, api.Tree{Kind: w.Kind()})
		}
	}
}

// Bound: sets within one another, each of whose keys is long.
func TestLongKeys(t *testing.T) {
	long := text(strings.Repeat("\x00", 1<<18))
	v := of(t, api.Conf{}, long)
	for range 62 {
		v = good(t)(of(t, api.Conf{Seed: 1, Bits: 64}, set()).Add(v))
	}
	if k := v.Key(); len(k) != 1<<19+3+2*62 || v.Depth() != 63 || v.Nodes() != 63 {
		t.Errorf("%d bytes, depth %d, %d nodes", len(k), v.Depth(), v.Nodes())
	}
}

// Ways: a value's kind is asked by a switch whose cases fall through; parts are handed on by a closure, and gone through by a range over a function.
func TestWays(t *testing.T) {
	file, err := parser.ParseFile(token.NewFileSet(), "value.go", nil, 0)
	if err != nil {
		t.Fatal(err)
	}
	found := map[string]bool{}
	for _, d := range file.Decls {
		f, ok := d.(*ast.FuncDecl)
		if !ok {
			continue
		}
		ast.Inspect(f, func(n ast.Node) bool {
			switch x := n.(type) {
			case *ast.SwitchStmt:
				found["fallthrough"] = found["fallthrough"] || asksKind(x) && fallsThrough(x)
			case *ast.FuncLit:
				found["closure"] = found["closure"] || f.Name.Name == "parts"
			case *ast.RangeStmt:
				c, ok := x.X.(*ast.CallExpr)
				found["range-function"] = found["range-function"] || ok && isCallOf(c, "parts")
			}
			return true
		})
	}
	for _, way := range []string{"fallthrough", "closure", "range-function"} {
		if !found[way] {
			t.Errorf("not found: %s", way)
		}
	}
	for _, i := range file.Imports {
		if path, _ := strconv.Unquote(i.Path.Value); strings.HasPrefix(path, "placket/") && !slices.Contains([]string{"api", "hamt", "num", "rope", "scalar"}, path[len("placket/"):]) {
			t.Errorf("value does not stand on %s", path)
		}
	}
}

// asksKind tells whether x asks what v.Kind tells.
func asksKind(x *ast.SwitchStmt) bool {
	c, ok := x.Tag.(*ast.CallExpr)
	return ok && isCallOf(c, "Kind")
}

// fallsThrough tells whether a case of x does.
func fallsThrough(x *ast.SwitchStmt) bool {
	found := false
	ast.Inspect(x, func(n ast.Node) bool {
		b, ok := n.(*ast.BranchStmt)
		found = found || ok && b.Tok == token.FALLTHROUGH
		return true
	})
	return found
}

// isCallOf tells whether c calls the method of that name of v.
func isCallOf(c *ast.CallExpr, name string) bool {
	f, ok := c.Fun.(*ast.SelectorExpr)
	if !ok {
		return false
	}
	who, ok := f.X.(*ast.Ident)
	return ok && who.Name == "v" && f.Sel.Name == name
}
