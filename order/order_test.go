package order

import (
	"cmp"
	"encoding/hex"
	"go/ast"
	"go/parser"
	"go/token"
	"math"
	"slices"
	"strconv"
	"strings"
	"testing"

	"placket/api"
	"placket/mix"
	"placket/value"
)

// Plain trees, by the chapter's words alone: what the calls must come to.

func boolean(n int64) api.Tree { return api.Tree{Kind: api.KBool, Int: n} }

func number(n int64) api.Tree { return api.Tree{Kind: api.KInt, Int: n} }

func text(s string) api.Tree { return api.Tree{Kind: api.KText, Text: s} }

func vec(items ...api.Tree) api.Tree { return api.Tree{Kind: api.KVec, Items: items} }

func set(items ...api.Tree) api.Tree { return api.Tree{Kind: api.KSet, Items: items} }

// dict is a map of these keys, with a comma between, and what they have.
func dict(keys string, items ...api.Tree) api.Tree {
	return api.Tree{Kind: api.KMap, Keys: strings.Split(keys, ",")[:len(items)], Items: items}
}

// canonical is t with keys and members rising, in memory of its own.
func canonical(t api.Tree) api.Tree {
	c := api.Tree{Kind: t.Kind, Int: t.Int, Text: t.Text}
	places := make([]int, len(t.Items))
	for i := range places {
		places[i] = i
		c.Items = append(c.Items, canonical(t.Items[i]))
	}
	items := slices.Clone(c.Items)
	slices.SortFunc(places, func(i, k int) int {
		switch t.Kind {
		case api.KMap:
			return cmp.Compare(t.Keys[i], t.Keys[k])
		case api.KSet:
			return orderOf(items[i], items[k])
		}
		return cmp.Compare(i, k)
	})
	for to, from := range places {
		c.Items[to] = items[from]
		if t.Kind == api.KMap {
			c.Keys = append(c.Keys, t.Keys[from])
		}
	}
	return c
}

// orderOf is what Order must tell of canonical trees.
func orderOf(a, b api.Tree) int {
	if a.Kind != b.Kind {
		return cmp.Compare(a.Kind, b.Kind)
	}
	for i := range min(len(a.Items), len(b.Items)) {
		if a.Kind == api.KMap && a.Keys[i] != b.Keys[i] {
			return cmp.Compare(a.Keys[i], b.Keys[i])
		}
		if o := orderOf(a.Items[i], b.Items[i]); o != 0 {
			return o
		}
	}
	return cmp.Or(cmp.Compare(a.Int, b.Int), cmp.Compare(a.Text, b.Text), cmp.Compare(len(a.Items), len(b.Items)))
}

// lies tells whether the canonical tree a, or anything that lies in it, is the canonical tree b.
func lies(a, b api.Tree) bool {
	return orderOf(a, b) == 0 || slices.ContainsFunc(a.Items, func(item api.Tree) bool { return lies(item, b) })
}

// drawer draws numbers below n that look like any other ones, the same ones each time.
func drawer() func(n int) int {
	word := uint64(1)
	return func(n int) int {
		word = word*6364136223846793005 + 1442695040888963407
		return int(word >> 33 % uint64(n))
	}
}

// drawn is any canonical tree of at most that depth, of few scalars and keys, so that many begin alike.
func drawn(draw func(int) int, depth int) api.Tree {
	if depth == 1 || draw(4) == 0 {
		l := []api.Tree{{}, boolean(0), boolean(1), number(-1), number(2), text(""), text("a"), text("a\x00")}
		return l[draw(len(l))]
	}
	t := api.Tree{Kind: api.KVec + draw(3)}
	keys := []string{"b", "", "a", "a\x00"}
	for i := range draw(4) {
		x := drawn(draw, depth-1)
		switch {
		case t.Kind == api.KMap:
			t.Keys = append(t.Keys, keys[i])
		case t.Kind == api.KSet && slices.ContainsFunc(t.Items, func(item api.Tree) bool { return orderOf(item, x) == 0 }):
			continue
		}
		t.Items = append(t.Items, x)
	}
	return canonical(t)
}

// shuffled is what t tells, with keys and members in another order, in memory of its own.
func shuffled(t api.Tree, draw func(int) int) api.Tree {
	c := canonical(t)
	for i := range c.Items {
		c.Items[i] = shuffled(c.Items[i], draw)
		k := draw(i + 1)
		if c.Kind == api.KVec {
			continue
		}
		c.Items[i], c.Items[k] = c.Items[k], c.Items[i]
		if c.Kind == api.KMap {
			c.Keys[i], c.Keys[k] = c.Keys[k], c.Keys[i]
		}
	}
	return c
}

// rising are canonical trees, each ahead of those behind it, as the chapter's words tell.
func rising() []api.Tree {
	null, no, yes, one, two := api.Tree{}, boolean(0), boolean(1), number(1), number(2)
	return slices.Concat(
		[]api.Tree{null, no, yes},
		[]api.Tree{number(math.MinInt64), number(-1 << 32), number(-256), number(-2), number(-1), number(0), one, two, number(255), number(256), number(1 << 32), number(math.MaxInt64)},
		[]api.Tree{text(""), text("\x00"), text("\x00\x00"), text("\x00\x01"), text("\x00\xff"), text("\x01"), text("10"), text("9"), text("A"), text("a"), text("a\x00"), text("a\x00b"), text("a\x01"), text("aa"), text("b"), text("é"), text("\xff"), text("\xff\x00")},
		[]api.Tree{vec(), vec(null), vec(null, null), vec(null, set()), vec(no), vec(one), vec(one, null), vec(one, null, null), vec(one, two), vec(one, vec()), vec(two), vec(two, one), vec(number(10)),
			vec(text("")), vec(text(""), text("")), vec(text("\x00")), vec(text("a"), set()), vec(text("a\x00")), vec(vec()), vec(vec(), null), vec(vec(null)), vec(vec(vec())), vec(dict("")), vec(set()), vec(set(), null), vec(set(null))},
		[]api.Tree{dict(""), dict("", null), dict(",a", null, null), dict(",a", null, set()), dict("", one), dict("\x00", null), dict("a", null), dict("a,a\x00", null, null), dict("a,b", null, null), dict("a,b", null, one), dict("a,b,c", null, one, null), dict("a,c", null, null),
			dict("a", no), dict("a,b", one, two), dict("a,b", two, one), dict("a", set(null)), dict("a\x00", null), dict("aa", null), dict("b", null), dict("b", vec()), dict("b", dict("a", null)), dict("b", set())},
		[]api.Tree{set(), set(null), set(null, no), set(null, no, one), set(null, one), set(null, two), set(no), set(one), set(one, two), set(one, two, number(3)), set(one, number(3)), set(one, set()), set(two), set(two, number(3)),
			set(text("a"), text("a\x00")), set(text("a\x00")), set(vec()), set(vec(), vec(null)), set(vec(), dict("")), set(vec(null)), set(dict("")), set(set()), set(set(), set(null)), set(set(null))},
	)
}

// someTrees are all that rise, out of order, and n that are drawn.
func someTrees(n int) []api.Tree {
	draw := drawer()
	l := rising()
	for i := range l {
		k := draw(i + 1)
		l[i], l[k] = l[k], l[i]
	}
	for range n {
		l = append(l, drawn(draw, 4))
	}
	return l
}

// confs are those of several seeds and numbers of bits, some of them none of 0 to 64.
func confs() []api.Conf {
	return []api.Conf{{Seed: 5, Bits: 64}, {}, {Seed: 0, Bits: 1}, {Seed: 9, Bits: 7}, {Seed: 1, Bits: -2}, {Seed: 1 << 63, Bits: 99}}
}

// of is the value of x, which is right.
func of(t *testing.T, c api.Conf, x api.Tree) value.Value {
	t.Helper()
	v, e := value.Of(c, x)
	if e != api.OK {
		t.Fatalf("error %d of %v", e, x)
	}
	return v
}

// all are the values of l, built with one Conf after the other.
func all(t *testing.T, l []api.Tree) []value.Value {
	t.Helper()
	vs := make([]value.Value, 0, len(l))
	for i, x := range l {
		vs = append(vs, of(t, confs()[i%len(confs())], x))
	}
	return vs
}

// told tells trees for a failure, some of them if there are many.
func told(l ...api.Tree) string {
	var b strings.Builder
	for _, x := range l[:min(len(l), 9)] {
		tell(&b, x)
		b.WriteString(" ")
	}
	return b.String()
}

func tell(b *strings.Builder, t api.Tree) {
	b.WriteString(strconv.Itoa(t.Kind))
	switch t.Kind {
	case api.KBool, api.KInt:
		b.WriteString(":" + strconv.FormatInt(t.Int, 10))
	case api.KText:
		b.WriteString(":" + strconv.Quote(t.Text))
	case api.KVec, api.KMap, api.KSet:
		b.WriteString("(")
		for i, item := range t.Items[:min(len(t.Items), 9)] {
			if t.Kind == api.KMap {
				b.WriteString(strconv.Quote(t.Keys[i]))
			}
			tell(b, item)
			b.WriteString(",")
		}
		b.WriteString(")")
	}
}

// checkList looks at what a call answered: the values of the canonical trees want, in this order.
func checkList(t *testing.T, name string, got []value.Value, want []api.Tree) {
	t.Helper()
	trees := make([]api.Tree, 0, len(got))
	for _, v := range got {
		trees = append(trees, v.Tree())
	}
	if !slices.EqualFunc(trees, want, func(a, b api.Tree) bool { return orderOf(a, b) == 0 }) {
		t.Fatalf("%s: %d values %s; want %d: %s", name, len(trees), told(trees...), len(want), told(want...))
	}
}

// lists are lists of trees, out of order: empty, of one, with many of them often, and with all.
func lists() [][]api.Tree {
	trees := someTrees(150)
	l := [][]api.Tree{nil, {}, {{}}, {number(2), number(1)}, {number(1), number(2)}, {{}, {}, {}}, {set(), vec(), dict(""), text(""), number(0), boolean(0), {}}, trees}
	draw := drawer()
	for n := range 60 {
		var list []api.Tree
		for range n {
			list = append(list, trees[draw(len(trees)/(1+n%4*10))])
		}
		l = append(l, list)
	}
	return l
}

// sortOf and uniqOf are what Sort and Uniq must tell of canonical trees.
func sortOf(l []api.Tree) []api.Tree {
	sorted := slices.Clone(l)
	slices.SortFunc(sorted, orderOf)
	return sorted
}

func uniqOf(l []api.Tree) []api.Tree {
	return slices.CompactFunc(sortOf(l), func(a, b api.Tree) bool { return orderOf(a, b) == 0 })
}

// The chapter's examples.
func TestExamples(t *testing.T) {
	l := all(t, []api.Tree{{}, boolean(0), number(-1), text(""), vec(), dict(""), set()})
	for i := range l[1:] {
		if Order(l[i], l[i+1]) != -1 || Order(l[i+1], l[i]) != 1 {
			t.Errorf("%s is not ahead of %s", told(l[i].Tree()), told(l[i+1].Tree()))
		}
	}
	if l := all(t, []api.Tree{vec(number(1)), vec(number(1), api.Tree{})}); Order(l[0], l[1]) != -1 {
		t.Error("the vector of 1 is not ahead of that of 1 and null")
	}
}

// P12.1, P12.3: values are in the order that the chapter's words tell, by whichever Confs.
func TestOrderOfRising(t *testing.T) {
	trees := rising()
	for _, c := range confs() {
		for i, a := range all(t, trees) {
			for k, x := range trees {
				if o := Order(a, of(t, c, x)); o != cmp.Compare(i, k) {
					t.Fatalf("Order of %sand %s: %d; want %d", told(trees[i]), told(x), o, cmp.Compare(i, k))
				}
			}
		}
	}
}

// P12.1: Order is that of the keys, and that of plain trees; Same is where it is 0.
func TestOrder(t *testing.T) {
	draw := drawer()
	trees := someTrees(250)
	l := all(t, trees)
	var others []value.Value
	for i, x := range trees {
		others = append(others, of(t, confs()[(i+2)%len(confs())], shuffled(x, draw)))
	}
	counts := map[int]int{}
	for i, a := range l {
		for k, b := range others {
			o, want := Order(a, b), orderOf(trees[i], trees[k])
			if o != want || o != strings.Compare(a.Key(), b.Key()) {
				t.Fatalf("Order of %sand %s: %d; want %d, and of the keys %d", told(trees[i]), told(trees[k]), o, want, strings.Compare(a.Key(), b.Key()))
			}
			if Order(b, a) != -o {
				t.Fatalf("Order of %sand %s: %d; turned %d", told(trees[i]), told(trees[k]), o, Order(b, a))
			}
			if Same(a, b) != (want == 0) {
				t.Fatalf("Same of %sand %s: %v", told(trees[i]), told(trees[k]), Same(a, b))
			}
			counts[o]++
		}
		if !Same(a, a) || Order(a, a) != 0 {
			t.Fatalf("%sis not itself", told(trees[i]))
		}
	}
	if counts[0] <= len(l) || counts[1] != counts[-1] {
		t.Errorf("of all pairs there were %v", counts)
	}
}

// P12.1, P12.3: the same values, however they came about, are the same, and have one sum.
func TestSame(t *testing.T) {
	c := api.Conf{Seed: 2, Bits: 6}
	v := of(t, c, dict("b,a", set(number(2), number(1)), vec()))
	other := of(t, api.Conf{}, dict("a,b,c", vec(), api.Tree{}, text("x")))
	s, _ := of(t, c, set(number(1))).Add(of(t, c, number(2)))
	other, _ = other.Set(api.Step{Kind: api.StKey, Text: "b"}, s)
	if Same(v, other) || Order(v, other) != -1 || Hash(4, v) == Hash(4, other) {
		t.Errorf("the same, though one has a key more: %d", Order(v, other))
	}
	other, _ = other.Cut(api.Step{Kind: api.StKey, Text: "c"})
	if !Same(v, other) || Order(v, other) != 0 || Hash(4, v) != Hash(4, other) {
		t.Errorf("not the same: %s", told(v.Tree(), other.Tree()))
	}
}

// P12.1: sums, reckoned apart from the program.
func TestHash(t *testing.T) {
	for _, x := range []struct {
		seed uint64
		t    api.Tree
		key  string // as hexadecimal digits
		sum  uint64
	}{
		{0, api.Tree{}, "01", 0x3b1b1d15a00da38c},
		{1, api.Tree{}, "01", 0xefb47bf46600f142},
		{0, vec(), "0500", 0x5c859f4309615038},
		{0, dict(""), "0600", 0x3b7a981b431e5760},
		{math.MaxUint64, set(), "0700", 0x316f0d15dacacd2c},
		{7, vec(api.Tree{}, boolean(1)), "0501020100", 0xbec12398ef922c91},
		{7, dict("b,a", boolean(1), boolean(0)), "0604610000020004620000020100", 0xb28bbe9ec30b3864},
		{1 << 63, set(number(2), number(1)), "0703800000000000000103800000000000000200", 0x7c7e1e67cfb2f275},
		{9, text("abc"), "046162630000", 0x946d068b52e04576},
	} {
		for _, c := range confs() {
			v := of(t, c, x.t)
			if k := hex.EncodeToString([]byte(v.Key())); k != x.key || Hash(x.seed, v) != x.sum {
				t.Errorf("Hash by %d of %s, whose key is %s: %x; want %x", x.seed, told(x.t), k, Hash(x.seed, v), x.sum)
			}
		}
	}
}

// P12.1, P12.3: a sum is that of the key, by each seed, and does not hang on the Conf.
func TestHashOfMany(t *testing.T) {
	draw := drawer()
	for _, x := range someTrees(200) {
		seeds := map[uint64]bool{}
		for _, seed := range []uint64{0, 1, 77, 1 << 40, 1 << 63, math.MaxUint64} {
			for _, c := range confs() {
				v := of(t, c, shuffled(x, draw))
				if h := Hash(seed, v); h != mix.Text(seed, v.Key()) {
					t.Fatalf("Hash by %d of %s: %x; want %x", seed, told(x), h, mix.Text(seed, v.Key()))
				}
				seeds[Hash(seed, v)] = true
			}
		}
		if len(seeds) != 6 {
			t.Errorf("%d sums of %sby 6 seeds", len(seeds), told(x))
		}
	}
}

// P12.2, P12.5.
func TestSort(t *testing.T) {
	for _, l := range lists() {
		sorted := Sort(all(t, l))
		checkList(t, "Sort", sorted, sortOf(l))
		checkList(t, "Sort of what is sorted", Sort(sorted), sortOf(l))
		slices.Reverse(sorted)
		checkList(t, "Sort of what falls", Sort(sorted), sortOf(l))
		for i := range sorted[min(1, len(sorted)):] {
			if Order(sorted[i], sorted[i+1]) == -1 {
				t.Fatal("what is sorted, turned about, does not fall")
			}
		}
	}
}

// P12.2.
func TestUniq(t *testing.T) {
	fewer := 0
	for _, l := range lists() {
		uniq := Uniq(all(t, l))
		checkList(t, "Uniq", uniq, uniqOf(l))
		checkList(t, "Uniq of what is so", Uniq(uniq), uniqOf(l))
		checkList(t, "Uniq of all twice", Uniq(all(t, slices.Concat(l, l))), uniqOf(l))
		if len(uniq) < len(l) {
			fewer++
		}
	}
	if fewer < 30 {
		t.Errorf("just %d lists had one often", fewer)
	}
}

// P12.2: the place of the first one that is not below, and whether that is it.
func TestFind(t *testing.T) {
	asked := someTrees(40)
	values := all(t, asked)
	there, behind := 0, 0
	for _, l := range lists() {
		for _, list := range [][]api.Tree{sortOf(l), uniqOf(l)} {
			vs := all(t, list)
			for i, v := range values {
				want, is := len(list), false
				for k, x := range slices.Backward(list) {
					if orderOf(x, asked[i]) >= 0 {
						want, is = k, orderOf(x, asked[i]) == 0
					}
				}
				if at, got := Find(vs, v); at != want || got != is {
					t.Fatalf("Find of %sin %d: %s: %d, %v; want %d, %v", told(asked[i]), len(list), told(list...), at, got, want, is)
				}
				if is {
					there++
				}
				if want == len(list) {
					behind++
				}
			}
		}
	}
	if there < 1000 || behind < 1000 {
		t.Errorf("%d were there, %d behind all", there, behind)
	}
}

// P12.2: in a list with one often it is the first of these.
func TestFindOfOften(t *testing.T) {
	for n := range 40 {
		for first := range n + 1 {
			var l []api.Tree
			for i := range n {
				l = append(l, vec(number(int64(cmp.Compare(i, first-1)))))
				if i >= first {
					l[i] = vec(number(1))
				}
			}
			at, is := Find(all(t, l), of(t, api.Conf{}, vec(number(1))))
			if at != first || is != (first < n) {
				t.Fatalf("Find, where the first one of %d is at %d: %d, %v", n, first, at, is)
			}
		}
	}
}

// P12.2, P12.5: sorted lists merged are all sorted together.
func TestMerge(t *testing.T) {
	l := lists()
	for i, a := range l {
		for k, b := range l {
			if len(a)+len(b) > 300 || (i+k)%3 != 0 {
				continue
			}
			both := slices.Concat(a, b)
			checkList(t, "Merge", Merge(all(t, sortOf(a)), all(t, sortOf(b))), sortOf(both))
			checkList(t, "Merge of what is sorted", Merge(Sort(all(t, a)), Sort(all(t, b))), sortOf(both))
		}
	}
	sorted := Sort(all(t, l[len(l)-1]))
	checkList(t, "Merge of one list with itself", Merge(sorted, sorted), sortOf(slices.Concat(l[len(l)-1], l[len(l)-1])))
}

// P12.2: lists one of which lies ahead of the other one, within it, or between its values.
func TestMergeOfParts(t *testing.T) {
	trees := rising()
	vs := all(t, trees)
	for i := range vs {
		checkList(t, "ahead and behind", Merge(vs[:i], vs[i:]), trees)
		checkList(t, "behind and ahead", Merge(vs[i:], vs[:i]), trees)
		checkList(t, "one", Merge(vs[i:i+1], slices.Concat(vs[:i], vs[i+1:])), trees)
		checkList(t, "all but one", Merge(slices.Concat(vs[:i], vs[i+1:]), vs[i:i+1]), trees)
	}
	var even, odd []value.Value
	for i, v := range vs {
		if i%2 == 0 {
			even = append(even, v)
		} else {
			odd = append(odd, v)
		}
	}
	checkList(t, "turn by turn", Merge(even, odd), trees)
	checkList(t, "turn by turn, turned", Merge(odd, even), trees)
}

// P12.2, P1: of lists that are not by Order anything may be told, but something is.
func TestOfOtherLists(t *testing.T) {
	trees := rising()
	slices.Reverse(trees)
	falling := all(t, trees)
	for _, v := range falling {
		if at, _ := Find(falling, v); at < 0 || at > len(falling) {
			t.Errorf("Find: %d", at)
		}
	}
	for i := range falling {
		if l := Merge(falling[:i], falling); len(l) != i+len(falling) {
			t.Errorf("Merge: %d values", len(l))
		}
	}
}

// P12.2: values, parts, parts of parts, and what is none of them.
func TestWithin(t *testing.T) {
	null, one, two := api.Tree{}, number(1), number(2)
	whole := dict("b,a", vec(one, set(vec(two, null), text("x"), dict("k", boolean(1)))), vec())
	for _, x := range []struct {
		t, part api.Tree
		is      bool
	}{
		{null, null, true},
		{one, one, true},
		{one, two, false},
		{vec(), null, false},
		{vec(), vec(), true},
		{vec(null), null, true},
		{vec(null), vec(), false},
		{vec(vec()), vec(), true},
		{vec(one, two), vec(one), false},
		{vec(one, two), vec(two), false},
		{vec(one, two), two, true},
		{set(one), one, true},
		{set(one, set(two)), two, true},
		{set(set(one, two)), set(two, one), true},
		{dict("a", one), one, true},
		{dict("a", one), text("a"), false}, // a key is no part
		{dict("a", text("a")), text("a"), true},
		{dict("a,b", one, two), dict("a", one), false},
		{text("ab"), text("a"), false},
		{text("\x01"), null, false}, // nor is a text with the key of one in it
		{text("\x05\x00"), vec(), false},
		{vec(text("\x05\x00")), vec(), false},
		{number(1 << 8), null, false},
		{whole, whole, true},
		{whole, vec(), true},
		{whole, null, true},
		{whole, two, true},
		{whole, text("x"), true},
		{whole, text("k"), false},
		{whole, boolean(1), true},
		{whole, boolean(0), false},
		{whole, dict("k", boolean(1)), true},
		{whole, vec(two, null), true},
		{whole, vec(null, two), false},
		{whole, set(dict("k", boolean(1)), vec(two, null), text("x")), true},
		{whole, set(vec(two, null), text("x")), false},
		{vec(one, set(vec(two, null), text("x"), dict("k", boolean(1)))), whole, false},
	} {
		for _, c := range confs() {
			if is := Within(of(t, c, x.t), of(t, api.Conf{Seed: 3, Bits: 9}, x.part)); is != x.is {
				t.Errorf("%swithin %s: %v", told(x.part), told(x.t), is)
			}
		}
	}
}

// P12.2: Within, as plain trees tell it.
func TestWithinOfMany(t *testing.T) {
	draw := drawer()
	trees := someTrees(200)
	values := all(t, trees)
	there := 0
	for i, v := range values {
		for k, x := range values {
			want := lies(trees[i], trees[k])
			if is := Within(v, x); is != want {
				t.Fatalf("%swithin %s: %v", told(trees[k]), told(trees[i]), is)
			}
			if want {
				there++
			}
		}
		checkWithinAll(t, v, of(t, confs()[draw(len(confs()))], vec(trees[i], trees[draw(len(trees))])))
	}
	if there < 2*len(trees) {
		t.Errorf("just %d lay within others", there)
	}
}

// checkWithinAll looks whether v, and all that lies in it, lies within whole, and whole within none of it.
func checkWithinAll(t *testing.T, v, whole value.Value) {
	t.Helper()
	if !Within(whole, v) || Within(v, whole) {
		t.Fatalf("%swithin %s: %v, turned %v", told(v.Tree()), told(whole.Tree()), Within(whole, v), Within(v, whole))
	}
	for _, s := range v.Steps() {
		x, _ := v.Get(s)
		checkWithinAll(t, x, whole)
	}
}

// P12.3: of three values, what is ahead of what is ahead is ahead; two are the same just if neither is ahead.
func TestOrderIsTotal(t *testing.T) {
	draw := drawer()
	trees := someTrees(300)
	l := all(t, trees)
	for range 60000 {
		i, k, n := draw(len(l)), draw(len(l)), draw(len(l))
		a, b, c := l[i], l[k], l[n]
		if Order(a, b) <= 0 && Order(b, c) <= 0 && Order(a, c) > 0 {
			t.Fatalf("%sis behind, though not behind what is not behind: %s", told(trees[i]), told(trees[k], trees[n]))
		}
		if (Order(a, b) == 0) != (a.Key() == b.Key()) {
			t.Fatalf("Order of %s: %d", told(trees[i], trees[k]), Order(a, b))
		}
	}
}

// P12.4: with one item turned to a greater one, or one more at its end, a vector is greater.
func TestGreaterVectors(t *testing.T) {
	draw := drawer()
	trees := someTrees(100)
	values := all(t, trees)
	greater := 0
	for _, x := range trees {
		for range 10 {
			if x.Kind != api.KVec {
				break
			}
			v := of(t, confs()[draw(len(confs()))], x)
			more, e := v.Insert(v.Len(), values[draw(len(values))])
			if e != api.OK || Order(v, more) != -1 {
				t.Fatalf("%s with one more: %d, error %d", told(x), Order(v, more), e)
			}
			if v.Len() == 0 {
				continue
			}
			s := api.Step{Int: draw(v.Len())}
			old, _ := v.Get(s)
			item := values[draw(len(values))]
			turned, e := v.Set(s, item)
			if e != api.OK || Order(turned, v) != Order(item, old) {
				t.Fatalf("%s with %sat %d: %d, error %d", told(x), told(item.Tree()), s.Int, Order(turned, v), e)
			}
			greater++
		}
	}
	if greater < 100 {
		t.Errorf("just %d were turned", greater)
	}
}

// R3: what is handed in is not written to, and what is answered is memory of its own.
func TestListsAreOwn(t *testing.T) {
	for _, l := range lists() {
		sorted := sortOf(l)
		for name, call := range map[string]func([]value.Value) []value.Value{
			"Sort":                   Sort,
			"Uniq":                   Uniq,
			"Merge with none":        func(l []value.Value) []value.Value { return Merge(l, nil) },
			"Merge of none":          func(l []value.Value) []value.Value { return Merge(nil, l) },
			"Merge with itself":      func(l []value.Value) []value.Value { return Merge(l, l) },
			"Merge of its beginning": func(l []value.Value) []value.Value { return Merge(l[:len(l)/2], l[len(l)/2:]) },
			"Merge of its end":       func(l []value.Value) []value.Value { return Merge(l[len(l)/2:], l[:len(l)/2]) },
			"Find": func(l []value.Value) []value.Value {
				Find(l[:len(l)/2], value.Value{})
				return nil
			},
		} {
			for _, x := range [][]api.Tree{l, sorted} {
				handed := all(t, slices.Concat(x, []api.Tree{text("behind")}))
				got, again := call(handed[:len(x)]), call(handed[:len(x)])
				want := make([]api.Tree, 0, len(again))
				for _, v := range again {
					want = append(want, v.Tree())
				}
				for i := range got {
					got[i] = of(t, api.Conf{}, text("spoilt"))
				}
				_ = append(got, of(t, api.Conf{}, text("spoilt")), of(t, api.Conf{}, text("spoilt")))
				checkList(t, name+": what was handed in", handed, slices.Concat(x, []api.Tree{text("behind")}))
				checkList(t, name+": another answer", again, want)
			}
		}
	}
}

// R5, R6: the zero Value is null; a nil list and an empty one are the same.
func TestZeros(t *testing.T) {
	var zero value.Value
	null := of(t, api.Conf{Seed: 3, Bits: 5}, api.Tree{})
	no := of(t, api.Conf{}, boolean(0))
	if Order(zero, null) != 0 || Order(zero, no) != -1 || Order(no, zero) != 1 || !Same(zero, null) || Same(no, zero) {
		t.Errorf("the zero Value is not null: %d, %d", Order(zero, null), Order(zero, no))
	}
	if Hash(7, zero) != Hash(7, null) || !Within(zero, zero) || !Within(null, zero) || Within(no, zero) || Within(zero, no) {
		t.Error("the zero Value is not null")
	}
	checkList(t, "Sort", Sort([]value.Value{no, zero, null}), []api.Tree{{}, {}, boolean(0)})
	checkList(t, "Uniq", Uniq([]value.Value{no, zero, null}), []api.Tree{{}, boolean(0)})
	for _, none := range [][]value.Value{nil, {}} {
		if len(Sort(none)) != 0 || len(Uniq(none)) != 0 || len(Merge(none, nil)) != 0 || len(Merge([]value.Value{}, none)) != 0 {
			t.Error("something of nothing")
		}
		if at, is := Find(none, zero); at != 0 || is {
			t.Errorf("Find in nothing: %d, %v", at, is)
		}
		checkList(t, "Merge with none", Merge(none, []value.Value{zero, no}), []api.Tree{{}, boolean(0)})
		checkList(t, "Merge with none behind", Merge([]value.Value{zero, no}, none), []api.Tree{{}, boolean(0)})
	}
}

// P1, R4: the same is answered once more, and by whichever Conf, whatever was asked between.
func TestTheSameOnceMore(t *testing.T) {
	l := lists()
	ask := func(c api.Conf, i int) string {
		var b strings.Builder
		var list []value.Value
		for _, x := range l[i] {
			list = append(list, of(t, c, x))
		}
		x := of(t, c, l[7][i])
		sorted := Sort(list)
		at, is := Find(sorted, x)
		b.WriteString(strconv.Itoa(at) + strconv.FormatBool(is))
		for _, v := range slices.Concat(sorted, Uniq(list), Merge(sorted, Uniq(sorted))) {
			b.WriteString(v.Key() + strconv.FormatUint(Hash(5, v), 16) + strconv.Itoa(Order(v, x)) + strconv.FormatBool(Within(v, x)))
		}
		return b.String()
	}
	var first []string
	for i := range l {
		first = append(first, ask(confs()[0], i))
	}
	for i := range slices.Backward(l) {
		for _, c := range confs() {
			if ask(c, i) != first[i] {
				t.Errorf("other answers of the list %d", i)
			}
		}
	}
}

// Bound: values as deep as may be, with as many nodes as may be, and long lists of values.
func TestMany(t *testing.T) {
	wide := vec()
	for i := range 16383 {
		wide.Items = append(wide.Items, number(int64(i)))
	}
	v := of(t, api.Conf{}, wide)
	turned, _ := v.Set(api.Step{Int: 16382}, of(t, api.Conf{}, number(16383)))
	if Order(v, turned) != -1 || Same(turned, v) || Within(v, of(t, api.Conf{}, number(16383))) || !Within(turned, of(t, api.Conf{}, number(16383))) {
		t.Error("the last one of many is not looked at")
	}
	deep, other := api.Tree{}, boolean(0)
	for i := range 63 {
		switch i % 3 {
		case 0:
			deep, other = set(deep), set(other)
		case 1:
			deep, other = vec(deep), vec(other)
		case 2:
			deep, other = dict("k", deep), dict("k", other)
		}
	}
	a, b := of(t, api.Conf{Bits: 64}, deep), of(t, api.Conf{}, other)
	if Order(a, b) != -1 || !Within(a, value.Value{}) || Within(b, value.Value{}) || !Within(b, b) || Within(a, b) {
		t.Error("the innermost one is not looked at")
	}
	var list []value.Value
	var want []api.Tree
	for i := range 30000 {
		list = append(list, of(t, api.Conf{}, number(int64(i*7919%10007))))
		want = append(want, number(int64(i*7919%10007)))
	}
	want = sortOf(want)
	checkList(t, "Sort of many", Sort(list), want)
	checkList(t, "Uniq of many", Uniq(list), uniqOf(want))
	checkList(t, "Merge of many", Merge(Sort(list[:9000]), Sort(list[9000:])), want)
	checkList(t, "Sort of great ones", Sort(slices.Repeat([]value.Value{turned, v}, 20)), slices.Concat(slices.Repeat([]api.Tree{wide}, 20), slices.Repeat([]api.Tree{turned.Tree()}, 20)))
}

// Ways: parts are told by a method value that is handed on; Sort lays its list in order by a generic function with a closure.
func TestWays(t *testing.T) {
	file, err := parser.ParseFile(token.NewFileSet(), "order.go", nil, 0)
	if err != nil {
		t.Fatal(err)
	}
	generic := map[string]bool{}
	for _, d := range file.Decls {
		if f, ok := d.(*ast.FuncDecl); ok && f.Type.TypeParams != nil {
			generic[f.Name.Name] = true
		}
	}
	handed, laid := false, false
	for _, d := range file.Decls {
		f, ok := d.(*ast.FuncDecl)
		if !ok {
			continue
		}
		ast.Inspect(f, func(n ast.Node) bool {
			c, ok := n.(*ast.CallExpr)
			if !ok {
				return true
			}
			name, _ := c.Fun.(*ast.Ident)
			for _, x := range c.Args {
				s, ok := x.(*ast.SelectorExpr)
				handed = handed || ok && s.Sel.Name == "Get"
				_, ok = x.(*ast.FuncLit)
				laid = laid || ok && f.Name.Name == "Sort" && name != nil && generic[name.Name]
			}
			return true
		})
	}
	if !handed || !laid {
		t.Errorf("a method value handed on: %v; laid in order by a generic function with a closure: %v", handed, laid)
	}
	for _, i := range file.Imports {
		if path, _ := strconv.Unquote(i.Path.Value); strings.HasPrefix(path, "placket/") && !slices.Contains([]string{"api", "mix", "quote", "scalar", "value"}, path[len("placket/"):]) {
			t.Errorf("order does not stand on %s", path)
		}
	}
}
