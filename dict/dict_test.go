package dict

import (
	"go/ast"
	"go/parser"
	"go/token"
	"maps"
	"math"
	"slices"
	"strconv"
	"strings"
	"testing"

	"placket/api"
	"placket/hamt"
)

// drawer draws numbers below n that look like any other ones, the same ones each time.
func drawer() func(n int) int {
	word := uint64(1)
	return func(n int) int {
		word = word*6364136223846793005 + 1442695040888963407
		return int(word >> 33 % uint64(n))
	}
}

// confs are some of all kinds, also with numbers of bits that are none of 0 to 64.
func confs() []api.Conf {
	return []api.Conf{{}, {Seed: 5, Bits: 64}, {Seed: 0, Bits: 1}, {Seed: math.MaxUint64, Bits: 7}, {Seed: 1, Bits: -2}, {Seed: 2, Bits: 99}}
}

// texts are edges of the order, not in order: pieces of each other, of letters, signs, bytes of all kinds.
func texts() []string {
	return []string{"b", "", "ab", "a", "\xff", "a\x00", "B", "aa", "\x00", "\x80", "é", "ba", "\x00\x00", "日本", "abc", "\xff\xff", "10", "9", "a\x01", "\x7f", strings.Repeat("x", 300), "a\xff"}
}

// asked are the texts, and such as lie right beside them and between.
func asked() []string {
	l := append(texts(), "no key", "\xff\xff\xff", "zzz", "\xfe", "A", "ac")
	for _, k := range texts() {
		l = append(l, k+"\x00", k+"\xff", k[:len(k)/2])
	}
	return l
}

// made is the map of what want has.
func made(c api.Conf, want map[string]int) hamt.Map[int] {
	m := hamt.New[int](c)
	for k, x := range want {
		m = m.Set(k, x)
	}
	return m
}

// numbered has for each of l another number, 0 for the first one.
func numbered(l ...string) map[string]int {
	want := map[string]int{}
	for i, k := range l {
		want[k] = i
	}
	return want
}

// drawn has n of the texts, or fewer, each with a number below 3.
func drawn(draw func(int) int, n int) map[string]int {
	want := map[string]int{}
	l := texts()
	for range n {
		want[l[draw(len(l))]] = draw(3)
	}
	return want
}

// some are plain maps of many kinds.
func some() []map[string]int {
	l := []map[string]int{nil, {"": 0}, {"a": 7}, {"": 1, "\x00": 2}, numbered(texts()...), numbered("k", "l", "m")}
	draw := drawer()
	for n := range 12 {
		l = append(l, drawn(draw, 2*n))
	}
	return l
}

// pair is two plain maps.
type pair struct {
	a, b map[string]int
}

// pairs are of some ones each with each.
func pairs() []pair {
	var l []pair
	for _, a := range some() {
		for _, b := range some() {
			l = append(l, pair{a, b})
		}
	}
	return l
}

// rising are the keys of want, in order.
func rising(want map[string]int) []string {
	return slices.Sorted(maps.Keys(want))
}

// filtered is what want has of the keys of which keep is true.
func filtered(want map[string]int, keep func(string) bool) map[string]int {
	l := map[string]int{}
	for k, x := range want {
		if keep(k) {
			l[k] = x
		}
	}
	return l
}

// in tells of which keys want has something.
func in(want map[string]int) func(string) bool {
	return func(k string) bool {
		_, is := want[k]
		return is
	}
}

// check asks m for all that it has, and holds its Shape against that of a map that was made straight away.
func check(t *testing.T, name string, m hamt.Map[int], c api.Conf, want map[string]int) {
	t.Helper()
	if m.Conf() != c {
		t.Fatalf("%s: Conf %v; want %v", name, m.Conf(), c)
	}
	if m.Len() != len(want) || !maps.Equal(maps.Collect(m.All()), want) {
		t.Fatalf("%s of %v: %v, Len %d; want %v", name, c, maps.Collect(m.All()), m.Len(), want)
	}
	if s, shape := m.Shape(), made(c, want).Shape(); s != shape {
		t.Fatalf("%s of %v: Shape %s; want %s", name, c, s, shape)
	}
}

// found is what a call tells of a key.
type found struct {
	k  string
	x  int
	is bool
}

// tells is a found of what a call answers.
func tells(k string, x int, is bool) found {
	return found{k, x, is}
}

// foundAt is what must be told of the key at the place i of want.
func foundAt(want map[string]int, i int) found {
	l := rising(want)
	if i < 0 || i >= len(l) {
		return found{}
	}
	return found{l[i], want[l[i]], true}
}

// below is how many keys of want are below k, and how many are k or below.
func below(want map[string]int, k string) (int, int) {
	less, most := 0, 0
	for key := range want {
		if key < k {
			less++
		}
		if key <= k {
			most++
		}
	}
	return less, most
}

// P10.1: keys are asked by their order, of keys that are, and that are none.
func TestByOrder(t *testing.T) {
	for _, c := range confs() {
		for _, want := range some() {
			m := made(c, want)
			if f := tells(First(m)); f != foundAt(want, 0) {
				t.Fatalf("First of %v of %v: %v", want, c, f)
			}
			if f := tells(Last(m)); f != foundAt(want, len(want)-1) {
				t.Fatalf("Last of %v of %v: %v", want, c, f)
			}
			for _, k := range asked() {
				less, most := below(want, k)
				if f := tells(Next(m, k)); f != foundAt(want, most) {
					t.Fatalf("Next of %q of %v of %v: %v; want %v", k, want, c, f, foundAt(want, most))
				}
				if f := tells(Prev(m, k)); f != foundAt(want, less-1) {
					t.Fatalf("Prev of %q of %v of %v: %v; want %v", k, want, c, f, foundAt(want, less-1))
				}
				if n := Rank(m, k); n != less {
					t.Fatalf("Rank of %q of %v of %v: %d; want %d", k, want, c, n, less)
				}
			}
			for i := -3; i < len(want)+4; i++ {
				if f := tells(At(m, i)); f != foundAt(want, i) {
					t.Fatalf("At %d of %v of %v: %v; want %v", i, want, c, f, foundAt(want, i))
				}
			}
			check(t, "what was asked", m, c, want)
		}
	}
}

// P10.1: what is far out of range is no place.
func TestAtFarOut(t *testing.T) {
	for _, m := range []hamt.Map[int]{{}, made(api.Conf{}, numbered("a")), made(api.Conf{Bits: 64}, numbered(texts()...))} {
		for _, i := range []int{math.MinInt, math.MinInt + 1, -1 << 32, -1, m.Len(), 1 << 32, math.MaxInt} {
			if f := tells(At(m, i)); f != (found{}) {
				t.Errorf("At %d of %d: %v", i, m.Len(), f)
			}
		}
	}
}

// P10.1: known answers, where an empty text is a key, and has 0.
func TestByOrderKnown(t *testing.T) {
	m := made(api.Conf{Seed: 3, Bits: 64}, map[string]int{"": 0, "a": 1, "a\x00": 2, "ab": 3, "\xff": 4})
	for _, x := range []struct {
		name      string
		got, want found
	}{
		{"First", tells(First(m)), found{"", 0, true}},
		{"Last", tells(Last(m)), found{"\xff", 4, true}},
		{"Next of nothing", tells(Next(m, "")), found{"a", 1, true}},
		{"Next of a", tells(Next(m, "a")), found{"a\x00", 2, true}},
		{"Next of a and 0", tells(Next(m, "a\x00")), found{"ab", 3, true}},
		{"Next of A", tells(Next(m, "A")), found{"a", 1, true}},
		{"Next of b", tells(Next(m, "b")), found{"\xff", 4, true}},
		{"Next of the last", tells(Next(m, "\xff")), found{}},
		{"Next of one beyond", tells(Next(m, "\xff\xff")), found{}},
		{"Prev of the first", tells(Prev(m, "")), found{}},
		{"Prev of 0", tells(Prev(m, "\x00")), found{"", 0, true}},
		{"Prev of a", tells(Prev(m, "a")), found{"", 0, true}},
		{"Prev of ab", tells(Prev(m, "ab")), found{"a\x00", 2, true}},
		{"Prev of aa", tells(Prev(m, "aa")), found{"a\x00", 2, true}},
		{"Prev of one beyond", tells(Prev(m, "\xff\x00")), found{"\xff", 4, true}},
		{"At 0", tells(At(m, 0)), found{"", 0, true}},
		{"At 3", tells(At(m, 3)), found{"ab", 3, true}},
		{"Prev of the only one", tells(Prev(made(api.Conf{}, numbered("a")), "a")), found{}},
	} {
		if x.got != x.want {
			t.Errorf("%s: %v; want %v", x.name, x.got, x.want)
		}
	}
}

// R5: the zero Map is asked, put together and changed like any without keys.
func TestZero(t *testing.T) {
	var zero hamt.Map[int]
	for _, f := range []found{tells(First(zero)), tells(Last(zero)), tells(Next(zero, "")), tells(Prev(zero, "x")), tells(At(zero, 0)), tells(At(zero, -1))} {
		if f != (found{}) {
			t.Errorf("of the zero Map: %v", f)
		}
	}
	if n := Rank(zero, "x"); n != 0 {
		t.Errorf("Rank of the zero Map: %d", n)
	}
	c := api.Conf{Seed: 9, Bits: 64}
	m := made(c, numbered("a", "b"))
	check(t, "Between", Between(zero, "", "x"), api.Conf{}, nil)
	check(t, "Union", Union(zero, m), api.Conf{}, numbered("a", "b"))
	check(t, "Union", Union(m, zero), c, numbered("a", "b"))
	check(t, "Meet", Meet(zero, m), api.Conf{}, nil)
	check(t, "Meet", Meet(m, zero), c, nil)
	check(t, "Less", Less(zero, m), api.Conf{}, nil)
	check(t, "Less", Less(m, zero), c, numbered("a", "b"))
	if l := Changes(zero, zero, equal); len(l) > 0 {
		t.Errorf("Changes of zero Maps: %v", l)
	}
	check(t, "Apply", Apply(zero, nil), api.Conf{}, nil)
	check(t, "Apply", Apply(m, []Change[int]{{}}), c, numbered("a", "b"))
	check(t, "Apply", Apply(zero, []Change[int]{{}, {Key: "k", Has: true}}), api.Conf{}, numbered("k"))
	check(t, "Apply", Apply(zero, Changes(zero, m, equal)), api.Conf{}, numbered("a", "b"))
}

// P10.2: Between has the keys from lo on, below hi, also where these are no keys, the same, or the wrong way round.
func TestBetween(t *testing.T) {
	bounds := append(asked()[:20], "a\x00\x00", "\xfe", "ac")
	for _, c := range confs() {
		for _, want := range some() {
			m := made(c, want)
			for _, lo := range bounds {
				for _, hi := range bounds {
					inside := filtered(want, func(k string) bool {
						return lo <= k && k < hi
					})
					check(t, "Between "+strconv.Quote(lo)+" and "+strconv.Quote(hi), Between(m, lo, hi), c, inside)
				}
			}
			check(t, "what was cut", m, c, want)
		}
	}
}

// P10.2: lo is within, hi is not, and nothing is below an empty text.
func TestBetweenKnown(t *testing.T) {
	c := api.Conf{Seed: 3, Bits: 5}
	m := made(c, numbered("", "a", "b", "ba", "c"))
	for _, x := range []struct {
		lo, hi string
		want   map[string]int
	}{
		{"a", "c", map[string]int{"a": 1, "b": 2, "ba": 3}},
		{"a", "b", map[string]int{"a": 1}},
		{"a", "a\x00", map[string]int{"a": 1}},
		{"a\x00", "b\x00", map[string]int{"b": 2}},
		{"a", "a", nil},
		{"c", "a", nil},
		{"", "", nil},
		{"", "a", map[string]int{"": 0}},
		{"", "\xff", numbered("", "a", "b", "ba", "c")},
		{"b", "", nil},
		{"c", "\xff", map[string]int{"c": 4}},
		{"d", "\xff", nil},
	} {
		check(t, "Between "+x.lo+" and "+x.hi, Between(m, x.lo, x.hi), c, x.want)
	}
}

// P10.2: two maps, of one Conf and of two, are put together by the Conf of the first one, and with what it has; both stay what they were.
func TestTogether(t *testing.T) {
	l := confs()
	for i, x := range pairs() {
		c, d := l[i%len(l)], l[(i+i/7)%len(l)]
		a, b := made(c, x.a), made(d, x.b)
		union := maps.Clone(x.b)
		if union == nil {
			union = map[string]int{}
		}
		maps.Copy(union, x.a)
		check(t, "Union", Union(a, b), c, union)
		check(t, "Meet", Meet(a, b), c, filtered(x.a, in(x.b)))
		check(t, "Less", Less(a, b), c, filtered(x.a, func(k string) bool {
			return !in(x.b)(k)
		}))
		check(t, "the first one", a, c, x.a)
		check(t, "the second one", b, d, x.b)
	}
}

// P10.2: known ones; a key that both have, has what the first one has, also if that is 0.
func TestTogetherKnown(t *testing.T) {
	c, d := api.Conf{Seed: 1, Bits: 64}, api.Conf{Seed: 2, Bits: 3}
	a := made(c, map[string]int{"": 1, "k": 0, "m": 5})
	b := made(d, map[string]int{"k": 8, "m": 5, "z": 9})
	check(t, "Union", Union(a, b), c, map[string]int{"": 1, "k": 0, "m": 5, "z": 9})
	check(t, "Union", Union(b, a), d, map[string]int{"": 1, "k": 8, "m": 5, "z": 9})
	check(t, "Meet", Meet(a, b), c, map[string]int{"k": 0, "m": 5})
	check(t, "Meet", Meet(b, a), d, map[string]int{"k": 8, "m": 5})
	check(t, "Less", Less(a, b), c, map[string]int{"": 1})
	check(t, "Less", Less(b, a), d, map[string]int{"z": 9})
	check(t, "Union with itself", Union(a, a), c, map[string]int{"": 1, "k": 0, "m": 5})
	check(t, "Meet with itself", Meet(a, a), c, map[string]int{"": 1, "k": 0, "m": 5})
	check(t, "Less than itself", Less(a, a), c, nil)
}

// P10.5: Meet and Less are apart, and together what was; Union has the keys of both.
func TestLawsOfTogether(t *testing.T) {
	l := confs()
	for i, x := range pairs() {
		c, d := l[i%len(l)], l[(i+i/7)%len(l)]
		a, b := made(c, x.a), made(d, x.b)
		meet, less, union := Meet(a, b), Less(a, b), Union(a, b)
		check(t, "Meet of both", Meet(meet, less), c, nil)
		check(t, "Union of both", Union(meet, less), c, x.a)
		check(t, "Union of both", Union(less, meet), c, x.a)
		if meet.Len()+less.Len() != a.Len() {
			t.Errorf("Meet %d, Less %d, of %d", meet.Len(), less.Len(), a.Len())
		}
		keys := slices.Concat(a.Keys(), b.Keys())
		slices.Sort(keys)
		if keys = slices.Compact(keys); !slices.Equal(union.Keys(), keys) {
			t.Errorf("Union of %v and %v: %q", x.a, x.b, union.Keys())
		}
		check(t, "Less of Union", Less(union, b), c, maps.Collect(less.All()))
	}
}

// equal tells whether two numbers are the same.
func equal(x, y int) bool {
	return x == y
}

// changesOf is what Changes must tell.
func changesOf(a, b map[string]int, same func(int, int) bool) []Change[int] {
	var l []Change[int]
	both := maps.Clone(a)
	if both == nil {
		both = map[string]int{}
	}
	maps.Copy(both, b)
	for _, k := range rising(both) {
		was, had := a[k]
		is, has := b[k]
		if !had || !has || !same(was, is) {
			l = append(l, Change[int]{k, had, has, was, is})
		}
	}
	return l
}

// P10.3: each key that just one has, or that differs, is told, by whichever same.
func TestChanges(t *testing.T) {
	l := confs()
	sames := []func(int, int) bool{
		equal,
		func(x, y int) bool { return true },
		func(x, y int) bool { return false },
		func(x, y int) bool { return x <= y },
		func(x, y int) bool { return x%2 == y%2 },
	}
	for i, x := range pairs() {
		c, d := l[i%len(l)], l[(i+i/7)%len(l)]
		a, b := made(c, x.a), made(d, x.b)
		for n, same := range sames {
			if got, want := Changes(a, b, same), changesOf(x.a, x.b, same); !slices.Equal(got, want) {
				t.Fatalf("Changes from %v to %v by the same %d: %v; want %v", x.a, x.b, n, got, want)
			}
		}
		check(t, "the first one", a, c, x.a)
		check(t, "the second one", b, d, x.b)
	}
}

// P10.3: known ones, by rising keys, whichever map they are of.
func TestChangesKnown(t *testing.T) {
	c := api.Conf{Seed: 4, Bits: 64}
	a := made(c, map[string]int{"": 1, "b": 0, "c": 3, "e": 5, "x": 9, "y": 0})
	b := made(api.Conf{}, map[string]int{"a": 2, "b": 0, "c": 4, "d": 0, "x": 0, "z": 7})
	for _, x := range []struct {
		name string
		got  []Change[int]
		want []Change[int]
	}{
		{"there", Changes(a, b, equal), []Change[int]{
			{"", true, false, 1, 0}, {"a", false, true, 0, 2}, {"c", true, true, 3, 4}, {"d", false, true, 0, 0},
			{"e", true, false, 5, 0}, {"x", true, true, 9, 0}, {"y", true, false, 0, 0}, {"z", false, true, 0, 7},
		}},
		{"back", Changes(b, a, equal), []Change[int]{
			{"", false, true, 0, 1}, {"a", true, false, 2, 0}, {"c", true, true, 4, 3}, {"d", true, false, 0, 0},
			{"e", false, true, 0, 5}, {"x", true, true, 0, 9}, {"y", false, true, 0, 0}, {"z", true, false, 7, 0},
		}},
		{"from none", Changes(hamt.Map[int]{}, made(c, numbered("p", "o")), equal), []Change[int]{{"o", false, true, 0, 1}, {"p", false, true, 0, 0}}},
		{"to none", Changes(made(c, numbered("p", "o")), hamt.Map[int]{}, equal), []Change[int]{{"o", true, false, 1, 0}, {"p", true, false, 0, 0}}},
		{"the same", Changes(a, a, equal), nil},
		{"never the same", Changes(made(c, numbered("p")), made(c, numbered("p")), func(x, y int) bool { return false }), []Change[int]{{"p", true, true, 0, 0}}},
	} {
		if !slices.Equal(x.got, x.want) {
			t.Errorf("%s: %v; want %v", x.name, x.got, x.want)
		}
	}
}

// P10.3, R6: same is asked of the keys that both have, of each once, the first map's thing ahead, rising.
func TestWhatSameIsAsked(t *testing.T) {
	for _, x := range pairs() {
		var got, want [][2]int
		for _, k := range rising(filtered(x.a, in(x.b))) {
			want = append(want, [2]int{x.a[k], x.b[k]})
		}
		Changes(made(api.Conf{Seed: 6, Bits: 64}, x.a), made(api.Conf{}, x.b), func(x, y int) bool {
			got = append(got, [2]int{x, y})
			return x < y
		})
		if !slices.Equal(got, want) {
			t.Fatalf("of %v and %v same was asked %v; want %v", x.a, x.b, got, want)
		}
	}
}

// anyChanges are such as no Changes tells, too: keys twice, in any order, with things where there are none.
func anyChanges(draw func(int) int, n int) []Change[int] {
	var l []Change[int]
	keys := texts()
	for range n {
		l = append(l, Change[int]{keys[draw(len(keys))], draw(2) == 0, draw(2) == 0, draw(4), draw(4)})
	}
	return l
}

// P10.3, R3: Turned changes about what was and what is, of each, in the same order, in memory of its own.
func TestTurned(t *testing.T) {
	draw := drawer()
	for n := range 60 {
		l := anyChanges(draw, n)
		was := slices.Clone(l)
		turned := Turned(l)
		if len(turned) != n || !slices.Equal(l, was) {
			t.Fatalf("Turned of %v: %v; and left is %v", was, turned, l)
		}
		for i, c := range turned {
			if want := (Change[int]{was[i].Key, was[i].Has, was[i].Had, was[i].Is, was[i].Was}); c != want {
				t.Fatalf("Turned of %v: %v; want %v", was[i], c, want)
			}
		}
		again := Turned(turned)
		if !slices.Equal(again, was) {
			t.Fatalf("Turned twice: %v; want %v", again, was)
		}
		for i := range again {
			again[i] = Change[int]{Key: "written"}
			turned[i] = Change[int]{Key: "written, too"}
		}
		if !slices.Equal(l, was) {
			t.Fatalf("what was turned is written to: %v", l)
		}
	}
	if l := append(Turned[int](nil), Turned([]Change[int]{})...); len(l) > 0 {
		t.Errorf("Turned of none: %v", l)
	}
}

// P10.3, R3: Apply does one change after the other, and goes by Key, Has and Is alone.
func TestApply(t *testing.T) {
	draw := drawer()
	for _, c := range confs() {
		for n, want := range some() {
			m := made(c, want)
			l := anyChanges(draw, 3*n)
			was := slices.Clone(l)
			after := filtered(want, in(want))
			for i, x := range l {
				if delete(after, x.Key); x.Has {
					after[x.Key] = x.Is
				}
				check(t, "Apply of the first ones", Apply(m, l[:i+1]), c, after)
			}
			check(t, "Apply", Apply(m, l), c, after)
			for i := range l {
				l[i].Had, l[i].Was = !l[i].Had, -l[i].Was-1
			}
			check(t, "Apply of what was otherwise", Apply(m, l), c, after)
			for i := range was {
				was[i].Had, was[i].Was = !was[i].Had, -was[i].Was-1
			}
			if !slices.Equal(l, was) {
				t.Fatalf("what was applied is written to: %v; want %v", l, was)
			}
			check(t, "what it was applied to", m, c, want)
			check(t, "Apply of none", Apply(m, nil), c, want)
			check(t, "Apply of none", Apply(m, []Change[int]{}), c, want)
		}
	}
}

// P10.3: the last change of a key holds; what is cut has nothing left, whatever its Is.
func TestApplyKnown(t *testing.T) {
	c := api.Conf{Seed: 8, Bits: 64}
	m := made(c, map[string]int{"": 4, "a": 1, "b": 2})
	check(t, "Apply", Apply(m, []Change[int]{
		{"a", true, false, 1, 50}, {"b", false, true, 0, 0}, {"c", false, true, 0, 6}, {"c", true, true, 6, 7},
		{"d", false, true, 0, 1}, {"d", true, false, 1, 0}, {"no key", true, false, 3, 3},
	}), c, map[string]int{"": 4, "b": 0, "c": 7})
	check(t, "Apply", Apply(m, []Change[int]{{"a", true, false, 1, 0}, {"a", false, true, 0, 9}, {"", true, false, 4, 4}}), c, map[string]int{"a": 9, "b": 2})
}

// P10.4: what differs is none of a map and itself; applied there and back it makes each of the other one.
func TestLawsOfChanges(t *testing.T) {
	l := confs()
	for i, x := range pairs() {
		c, d := l[i%len(l)], l[(i+i/7)%len(l)]
		a, b := made(c, x.a), made(d, x.b)
		if none := append(Changes(a, a, equal), Changes(made(d, x.a), a, equal)...); len(none) > 0 {
			t.Fatalf("Changes of %v and itself: %v", x.a, none)
		}
		there := Changes(a, b, equal)
		if len(there) == 0 != maps.Equal(x.a, x.b) {
			t.Fatalf("Changes from %v to %v: %v", x.a, x.b, there)
		}
		check(t, "there", Apply(a, there), c, x.b)
		check(t, "back", Apply(b, Turned(there)), d, x.a)
		check(t, "there and back", Apply(Apply(a, there), Turned(there)), c, x.a)
		if back := Changes(b, a, equal); !slices.Equal(back, Turned(there)) {
			t.Fatalf("Changes from %v to %v: %v; and there: %v", x.b, x.a, back, there)
		}
		if !slices.IsSortedFunc(there, func(x, y Change[int]) int { return strings.Compare(x.Key, y.Key) }) {
			t.Fatalf("Changes from %v to %v do not rise: %v", x.a, x.b, there)
		}
	}
}

// P10.6: Next of each goes through all keys, Prev back; Rank and At turn each other.
func TestWalks(t *testing.T) {
	for _, c := range confs() {
		for _, want := range some() {
			m := made(c, want)
			var up, down []string
			for k, x, is := First(m); is; k, x, is = Next(m, k) {
				if up = append(up, k); x != want[k] || len(up) > len(want) {
					t.Fatalf("from First on: %q, which has %d", up, x)
				}
			}
			for k, x, is := Last(m); is; k, x, is = Prev(m, k) {
				if down = append(down, k); x != want[k] || len(down) > len(want) {
					t.Fatalf("from Last on: %q, which has %d", down, x)
				}
			}
			if slices.Reverse(down); !slices.Equal(up, rising(want)) || !slices.Equal(down, up) {
				t.Fatalf("up %q, down %q; want %q", up, down, rising(want))
			}
			for i, k := range up {
				if f := tells(At(m, i)); f != (found{k, want[k], true}) || Rank(m, k) != i {
					t.Fatalf("At %d: %v; Rank of %q: %d", i, f, k, Rank(m, k))
				}
			}
		}
	}
}

// The chapter's examples.
func TestExamples(t *testing.T) {
	m := made(api.Conf{}, map[string]int{"a": 5, "c": 6})
	if f := tells(Next(m, "a")); f != (found{"c", 6, true}) {
		t.Errorf("Next of a: %v", f)
	}
	if f := tells(Next(m, "b")); f != (found{"c", 6, true}) {
		t.Errorf("Next of b: %v", f)
	}
	if n := Rank(m, "b"); n != 1 {
		t.Errorf("Rank of b: %d", n)
	}
	l := Changes(made(api.Conf{}, map[string]int{"a": 1}), made(api.Conf{}, map[string]int{"b": 2}), equal)
	if want := []Change[int]{{"a", true, false, 1, 0}, {"b", false, true, 0, 2}}; !slices.Equal(l, want) {
		t.Errorf("Changes: %v; want %v", l, want)
	}
}

// R3: two lists of changes share nothing, and what is written into them changes no map.
func TestChangesAreOwn(t *testing.T) {
	c := api.Conf{Seed: 7, Bits: 64}
	a, b := made(c, numbered("a", "b", "c")), made(c, numbered("c", "d", "a"))
	want := changesOf(numbered("a", "b", "c"), numbered("c", "d", "a"), equal)
	one, two := Changes(a, b, equal), Changes(a, b, equal)
	for i := range one {
		one[i] = Change[int]{Key: "written"}
	}
	one = append(one[:1], Change[int]{Key: "behind"})
	if !slices.Equal(two, want) || len(one) != 2 {
		t.Errorf("two lists share: %v; want %v", two, want)
	}
	check(t, "the first one", a, c, numbered("a", "b", "c"))
	check(t, "the second one", b, c, numbered("c", "d", "a"))
}

// P1, R4: the same is answered once more, and by whichever Conf, whatever was asked between.
func TestTheSameOnceMore(t *testing.T) {
	ask := func(c api.Conf, x pair) string {
		a, b := made(c, x.a), made(c, x.b)
		var told strings.Builder
		for _, m := range []hamt.Map[int]{Union(a, b), Meet(a, b), Less(a, b), Between(a, "a", "b"), Apply(b, Changes(a, b, equal))} {
			for k, n := range m.All() {
				told.WriteString(strconv.Quote(k) + strconv.Itoa(n))
			}
			last, _, _ := Last(m)
			told.WriteString("; " + strconv.Itoa(Rank(m, "b")) + strconv.Quote(last))
		}
		return told.String()
	}
	var first []string
	for _, x := range pairs() {
		first = append(first, ask(api.Conf{}, x))
	}
	for i, x := range slices.Backward(pairs()) {
		for _, c := range confs()[:3] {
			if told := ask(c, x); told != first[i] {
				t.Fatalf("of %v and %v: %s; and first: %s", x.a, x.b, told, first[i])
			}
		}
	}
}

// Maps are of any type, also of one that cannot be held against another one.
func TestOfAnyType(t *testing.T) {
	lists := hamt.New[[]string](api.Conf{Bits: 64}).Set("a", nil).Set("b", []string{"x"}).Set("c", []string{})
	others := lists.Set("b", []string{"x", "y"}).Cut("c").Set("d", nil)
	l := Changes(lists, others, slices.Equal[[]string])
	if len(l) != 3 || l[0].Key != "b" || len(l[0].Was) != 1 || len(l[0].Is) != 2 || l[1].Key != "c" || l[1].Is != nil || l[2].Key != "d" || !l[2].Has {
		t.Errorf("Changes of lists: %v", l)
	}
	if again := Changes(Apply(lists, l), others, slices.Equal[[]string]); len(again) > 0 {
		t.Errorf("Changes of the same lists: %v", again)
	}
	functions := hamt.New[func() string](api.Conf{}).Set("f", func() string { return "f" }).Set("g", nil)
	if k, f, is := First(functions); k != "f" || f() != "f" || !is {
		t.Errorf("First: %q, %v", k, is)
	}
	if k, f, is := Next(functions, "f"); k != "g" || f != nil || !is {
		t.Errorf("Next: %q, %v", k, is)
	}
	if k, f, is := Prev(functions, "f"); k != "" || f != nil || is {
		t.Errorf("Prev: %q, %v", k, is)
	}
	anything := hamt.New[any](api.Conf{}).Set("a", nil).Set("b", 5)
	if x, is := Meet(anything, anything.Cut("b")).Get("a"); x != nil || !is {
		t.Errorf("Meet: %v, %v", x, is)
	}
	marks := hamt.New[struct{}](api.Conf{Bits: 2}).Set("a", struct{}{})
	if m := Union(marks, marks.Set("b", struct{}{})); m.Len() != 2 || Less(m, marks).Len() != 1 {
		t.Errorf("Union: %d", m.Len())
	}
}

// P10.1 to P10.3: of many keys.
func TestMany(t *testing.T) {
	c, d := api.Conf{Seed: 11, Bits: 64}, api.Conf{Seed: 12, Bits: 9}
	wantA, wantB := map[string]int{}, map[string]int{}
	for i := range 6000 {
		k := "key " + strconv.Itoa(i*i)
		if i%2 == 0 {
			wantA[k] = i
		}
		if i%3 == 0 {
			wantB[k] = i % 4
		}
	}
	a, b := made(c, wantA), made(d, wantB)
	l := Changes(a, b, equal)
	if !slices.Equal(l, changesOf(wantA, wantB, equal)) {
		t.Errorf("%d changes", len(l))
	}
	check(t, "there", Apply(a, l), c, wantB)
	check(t, "back", Apply(b, Turned(l)), d, wantA)
	check(t, "Meet", Meet(a, b), c, filtered(wantA, in(wantB)))
	check(t, "Union", Union(Union(a, b), b), c, maps.Collect(Union(a, b).All()))
	check(t, "Between", Between(a, "key 2", "key 3"), c, filtered(wantA, func(k string) bool {
		return strings.HasPrefix(k, "key 2")
	}))
	for i := 0; i < a.Len(); i += 500 {
		if k, _, _ := At(a, i); Rank(a, k) != i {
			t.Errorf("Rank of %q, which is at %d: %d", k, i, Rank(a, k))
		}
	}
}

// Ways: all calls are generic functions; Changes has a loop that goes on at its label, out of one within, and asks the function handed in.
func TestWays(t *testing.T) {
	file, err := parser.ParseFile(token.NewFileSet(), "dict.go", nil, 0)
	if err != nil {
		t.Fatal(err)
	}
	for _, d := range file.Decls {
		f, ok := d.(*ast.FuncDecl)
		if !ok {
			continue
		}
		if f.Type.TypeParams == nil {
			t.Errorf("%s is not generic", f.Name.Name)
		}
		if f.Name.Name == "Changes" && (!goesOnAtLabel(f) || !calls(f, "same")) {
			t.Error("Changes has no loop that goes on at its label, or does not ask same")
		}
	}
	for _, i := range file.Imports {
		if path, _ := strconv.Unquote(i.Path.Value); strings.HasPrefix(path, "placket/") && !slices.Contains([]string{"api", "hamt", "quote"}, path[len("placket/"):]) {
			t.Errorf("dict does not stand on %s", path)
		}
	}
}

// goesOnAtLabel tells whether a loop in f goes on at its label from within another loop.
func goesOnAtLabel(f *ast.FuncDecl) bool {
	found := false
	ast.Inspect(f, func(n ast.Node) bool {
		outer, ok := n.(*ast.LabeledStmt)
		if !ok {
			return true
		}
		ast.Inspect(outer.Stmt, func(n ast.Node) bool {
			inner, ok := n.(*ast.ForStmt)
			if !ok {
				return true
			}
			ast.Inspect(inner, func(n ast.Node) bool {
				b, ok := n.(*ast.BranchStmt)
				found = found || ok && b.Tok == token.CONTINUE && b.Label != nil && b.Label.Name == outer.Label.Name
				return true
			})
			return true
		})
		return true
	})
	return found
}

// calls tells whether f calls what has that name.
func calls(f *ast.FuncDecl, name string) bool {
	found := false
	ast.Inspect(f, func(n ast.Node) bool {
		if c, ok := n.(*ast.CallExpr); ok {
			who, ok := c.Fun.(*ast.Ident)
			found = found || ok && who.Name == name
		}
		return true
	})
	return found
}
