package hamt

import (
	"go/ast"
	"go/parser"
	"go/token"
	"maps"
	"math"
	"math/bits"
	"slices"
	"sort"
	"strconv"
	"strings"
	"testing"

	"placket/api"
	"placket/mix"
)

// drawer draws numbers below n that look like any other ones, the same ones each time.
func drawer() func(n int) int {
	word := uint64(1)
	return func(n int) int {
		word = word*6364136223846793005 + 1442695040888963407
		return int(word >> 33 % uint64(n))
	}
}

// shuffled is l in another order, in memory of its own.
func shuffled(l []string, draw func(int) int) []string {
	l = slices.Clone(l)
	for i := range l {
		k := i + draw(len(l)-i)
		l[i], l[k] = l[k], l[i]
	}
	return l
}

// confs are those of all kinds of numbers of bits, some of them none of 0 to 64, and of several seeds.
func confs() []api.Conf {
	var l []api.Conf
	for i, n := range []int{0, 1, 2, 3, 4, 5, 6, 9, 10, 11, 30, 31, 32, 33, 59, 60, 61, 62, 63, 64, 65, 69, 128, 1 << 40, math.MaxInt, -1, -5, -64, 3 - 1<<32, math.MinInt} {
		l = append(l, api.Conf{Seed: []uint64{5, 0, math.MaxUint64, 1 << 63}[i%4], Bits: n})
	}
	return append(l, api.Conf{Seed: 0, Bits: 64}, api.Conf{Seed: 5, Bits: 64}, api.Conf{Seed: 7, Bits: 5})
}

// fewConfs are some of these.
func fewConfs() []api.Conf {
	return []api.Conf{{}, {Seed: 5, Bits: 64}, {Seed: 0, Bits: 1}, {Seed: 9, Bits: 7}, {Seed: 1, Bits: -2}, {Seed: 2, Bits: 99}}
}

// texts are edges, and n others.
func texts(n int) []string {
	l := []string{"", "a", "b", "ab", "ba", "aa", "\x00", "\x00\x00", "\x7f", "\x80", "\xff", "\xff\xff", "a\x00", "é", "日本語", "abcdefgh", "abcdefghi", strings.Repeat("x", 1000)}
	for i := range n {
		l = append(l, "key "+strconv.Itoa(i*i))
	}
	return l
}

// inverse is what an odd x must be multiplied with to make 1.
func inverse(x uint64) uint64 {
	y := x
	for range 6 {
		y *= 2 - x*y
	}
	return y
}

// before is the word x of which mix.Step(h, x) is sum.
func before(h, sum uint64) uint64 {
	return bits.RotateLeft64(sum-0xD6E8FEB86659FD93, -31)*inverse(0x9E3779B97F4A7C15) ^ h
}

// unended is that of which mix.End is sum.
func unended(sum uint64) uint64 {
	h := (sum ^ sum>>32) * inverse(0xD6E8FEB86659FD93)
	return h ^ h>>32
}

// textOf is a text whose sum, of all 64 bits, is sum; unlike words make unlike texts.
func textOf(seed, word, sum uint64) string {
	h := mix.Step(mix.Step(seed, 16), word)
	var b []byte
	for _, x := range []uint64{word, before(h, unended(sum))} {
		for i := range 8 {
			b = append(b, byte(x>>(56-8*i)))
		}
	}
	return string(b)
}

// twins are n texts of one sum of all 64 bits.
func twins(seed, sum uint64, n int) []string {
	var l []string
	for i := range n {
		l = append(l, textOf(seed, uint64(i)*0x0123456789abcdef, sum))
	}
	return l
}

// lowest is the lowest bits of h, reckoned bit by bit.
func lowest(h uint64, n int) uint64 {
	low, power := uint64(0), uint64(1)
	for range min(max(n, 0), 64) {
		low += h % 2 * power
		h, power = h/2, power*2
	}
	return low
}

// shapeOf is what Shape must tell of these keys, by the chapter's words alone.
func shapeOf(c api.Conf, keys []string, level int) string {
	if level == 13 {
		return "[" + strconv.Itoa(len(keys)) + "]"
	}
	places := map[int][]string{}
	for _, k := range keys {
		h := lowest(mix.Text(c.Seed, k), c.Bits)
		for range level {
			h /= 32
		}
		places[int(h%32)] = append(places[int(h%32)], k)
	}
	text := "("
	for i := range 32 {
		switch len(places[i]) {
		case 0:
		case 1:
			text += strconv.Itoa(i) + "."
		default:
			text += strconv.Itoa(i) + shapeOf(c, places[i], level+1)
		}
	}
	return text + ")"
}

// pair is a key, and what it has.
type pair struct {
	k string
	x int
}

// pairs is what All gives, up to (with) the n-th one.
func pairs(m Map[int], n int) []pair {
	var l []pair
	for k, x := range m.All() {
		l = append(l, pair{k, x})
		if len(l) == n {
			break
		}
	}
	return l
}

// rising are the keys of want, in order.
func rising(want map[string]int) []string {
	l := slices.Collect(maps.Keys(want))
	sort.Strings(l)
	return l
}

// pairsOf is what All must give of want.
func pairsOf(want map[string]int) []pair {
	var l []pair
	for _, k := range rising(want) {
		l = append(l, pair{k, want[k]})
	}
	return l
}

// check asks m for all that it has, but for its Shape.
func check(t *testing.T, name string, m Map[int], c api.Conf, want map[string]int) {
	t.Helper()
	if m.Conf() != c {
		t.Fatalf("%s: Conf %v; want %v", name, m.Conf(), c)
	}
	if n := m.Len(); n != len(want) {
		t.Fatalf("%s of %v: Len %d; want %d", name, c, n, len(want))
	}
	for k, y := range want {
		if x, ok := m.Get(k); x != y || !ok {
			t.Fatalf("%s of %v: Get(%q): %d, %v; want %d", name, c, k, x, ok, y)
		}
		for _, other := range []string{k + "\x00", k + "z", k[:len(k)/2]} {
			y, is := want[other]
			if x, ok := m.Get(other); x != y || ok != is {
				t.Fatalf("%s of %v: Get(%q): %d, %v; want %d, %v", name, c, other, x, ok, y, is)
			}
		}
	}
	for _, k := range []string{"no key", "\x01", "\xff\xff\xff", textOf(c.Seed, 77, 0), textOf(c.Seed, 78, math.MaxUint64)} {
		if x, ok := m.Get(k); x != 0 || ok {
			t.Fatalf("%s of %v: Get(%q): %d, %v", name, c, k, x, ok)
		}
	}
	if l := m.Keys(); !slices.Equal(l, rising(want)) {
		t.Fatalf("%s of %v: Keys: %q; want %q", name, c, l, rising(want))
	}
	if l := pairs(m, -1); !slices.Equal(l, pairsOf(want)) {
		t.Fatalf("%s of %v: All: %v; want %v", name, c, l, pairsOf(want))
	}
}

// checkShape looks at the Shape, and at the nodes themselves.
func checkShape(t *testing.T, name string, m Map[int], want map[string]int) {
	t.Helper()
	if s, shape := m.Shape(), shapeOf(m.Conf(), rising(want), 0); s != shape {
		t.Fatalf("%s of %v: Shape %s; want %s", name, m.Conf(), s, shape)
	}
	if n := checkNode(t, m, m.root, 0, 0); n != len(want) {
		t.Fatalf("%s of %v: %d keys in the nodes; want %d", name, m.Conf(), n, len(want))
	}
}

// checkNode looks at a node of that level, all of whose sums end as sum does, and tells how many keys it has.
func checkNode(t *testing.T, m Map[int], n node[int], level int, sum uint64) int {
	t.Helper()
	if level == 13 {
		for i, e := range n.list {
			checkEntry(t, m, e, level, sum)
			if i > 0 && n.list[i-1].key >= e.key {
				t.Fatalf("%q behind %q in a list", e.key, n.list[i-1].key)
			}
		}
		if n.Len() != 0 || len(n.list) < 2 {
			t.Fatalf("a list of %d at level 13, with a row of %d", len(n.list), n.Len())
		}
		return len(n.list)
	}
	keys := 0
	for i, p := range n.All() {
		longer := sum | uint64(i)<<(5*level)
		switch {
		case p.one != nil && p.more == nil:
			checkEntry(t, m, p.one, level+1, longer)
			keys++
		case p.one == nil && p.more != nil:
			keys += checkNode(t, m, *p.more, level+1, longer)
		default:
			t.Fatalf("both, or nothing, at %d of level %d", i, level)
		}
	}
	if n.list != nil || level > 0 && keys < 2 {
		t.Fatalf("%d keys at level %d, with a list of %d", keys, level, len(n.list))
	}
	return keys
}

// checkEntry looks at what a key has, the first pieces of whose sum are those of sum.
func checkEntry(t *testing.T, m Map[int], e *entry[int], pieces int, sum uint64) {
	t.Helper()
	if e.sum != m.Sum(e.key) || lowest(e.sum, 5*pieces) != sum {
		t.Fatalf("%q, whose sum is %x, lies at %x of %d pieces", e.key, m.Sum(e.key), sum, pieces)
	}
}

// made is the map of what want has, set in an order of its own.
func made(c api.Conf, want map[string]int) Map[int] {
	m := New[int](c)
	for _, k := range shuffled(rising(want), drawer()) {
		m = m.Set(k, want[k])
	}
	return m
}

// numbered has for each of l another number, 0 for the first one.
func numbered(l []string) map[string]int {
	want := map[string]int{}
	for i, k := range l {
		want[k] = i
	}
	return want
}

// checkNone asks a map without keys.
func checkNone(t *testing.T, m Map[int], c api.Conf) {
	t.Helper()
	check(t, "none", m, c, nil)
	checkShape(t, "none", m, nil)
	if s := m.Shape(); s != "()" {
		t.Errorf("none of %v: Shape %s", c, s)
	}
}

// P9.1, R5: the zero Map, and a new one, have no keys, and bear all.
func TestNone(t *testing.T) {
	for _, c := range append(confs(), api.Conf{}) {
		m := New[int](c)
		for _, none := range []Map[int]{m, m.Cut("a"), m.Set("", 3).Cut("")} {
			checkNone(t, none, c)
		}
	}
	checkNone(t, Map[int]{}, api.Conf{})
	checkNone(t, Map[int]{}.Cut(""), api.Conf{})
	var zero Map[string]
	if zero.Conf() != (api.Conf{}) || zero.Sum("a") != 0 || zero.Sum("") != 0 {
		t.Errorf("the zero Map: %v, %d", zero.Conf(), zero.Sum("a"))
	}
	if m := zero.Set("k", "x"); m.Shape() != "(0.)" || m.Len() != 1 || zero.Len() != 0 {
		t.Errorf("the zero Map with a key: %s, %d", m.Shape(), m.Len())
	}
}

// P9.1: the expected sums are reckoned apart from the program.
func TestSum(t *testing.T) {
	for _, x := range []struct {
		seed uint64
		k    string
		sum  uint64
	}{
		{0, "", 0x4179b061e0c0e0d0}, {0, "a", 0xb4b57d3cdfa3c3a5}, {0, "abcdefghi", 0x54768992a239fb06}, {0, "\x00", 0x634ec62cc5d878b5},
		{5, "", 0xe6dd79c60c60c0cc}, {5, "a", 0xcfad6990cb0b7983}, {5, "abcdefghi", 0x77fca82bc56fadb9}, {5, "\x00", 0x708ce0fef240f27e},
		{math.MaxUint64, "", 0xa70fa851cf0fed99}, {math.MaxUint64, "a", 0x7c3d8bd40cb18a2d}, {math.MaxUint64, "abcdefghi", 0xc10b94572d207e05}, {math.MaxUint64, "\x00", 0x64032a37f9b12e51},
	} {
		for _, c := range confs() {
			c.Seed = x.seed
			m := New[int](c)
			want := lowest(x.sum, c.Bits)
			if h := m.Sum(x.k); h != want {
				t.Errorf("Sum(%q) of %v: %#x; want %#x", x.k, c, h, want)
			}
			if h := m.Set(x.k, 3).Set("other", 4).Cut("other").Sum(x.k); h != want {
				t.Errorf("Sum(%q) of %v, with keys: %#x; want %#x", x.k, c, h, want)
			}
		}
	}
}

// The tests' own texts have the sums that they are made for.
func TestTextOf(t *testing.T) {
	for _, seed := range []uint64{0, 5, math.MaxUint64} {
		for _, sum := range []uint64{0, 3, 1 << 60, math.MaxUint64, 0x0123456789abcdef} {
			l := twins(seed, sum, 20)
			for _, k := range l {
				if h := mix.Text(seed, k); h != sum {
					t.Errorf("the sum of %q by %d: %#x; want %#x", k, seed, h, sum)
				}
			}
			if slices.Sort(l); len(slices.Compact(l)) != 20 {
				t.Errorf("some twins of %#x are the same", sum)
			}
		}
	}
}

// P9.1, P9.2: keys are set one by one, and asked each time; what a key has is set anew, also to 0; keys are cut, down to none.
func TestSetAndCut(t *testing.T) {
	for _, c := range confs() {
		l := append(texts(25), twins(c.Seed, 12345, 4)...)
		draw := drawer()
		m, want := New[int](c), map[string]int{}
		for i, k := range shuffled(l, draw) {
			m, want[k] = m.Set(k, i), i
			check(t, "set", m, c, want)
			checkShape(t, "set", m, want)
		}
		for i, k := range shuffled(l, draw) {
			m, want[k] = m.Set(k, i%3), i%3
			check(t, "set again", m, c, want)
			checkShape(t, "set again", m, want)
		}
		for _, k := range shuffled(l, draw) {
			m = m.Cut(k)
			delete(want, k)
			check(t, "cut", m, c, want)
			checkShape(t, "cut", m, want)
		}
	}
}

// P9.2: to cut what is no key leaves all as it was, also where it has the sum of one that is.
func TestCutOfNoKey(t *testing.T) {
	for _, c := range confs() {
		seven := twins(c.Seed, 7, 7)
		for _, l := range [][]string{nil, {"a"}, {seven[1]}, seven[1:3], seven[1:6], append(texts(9), seven[3])} {
			want := numbered(l)
			m := made(c, want)
			for _, k := range append(texts(12), seven[0], seven[6], "no key", textOf(c.Seed, 5, 7+1<<63), textOf(c.Seed, 5, 7+32)) {
				if _, is := want[k]; is {
					continue
				}
				check(t, "cut of no key", m.Cut(k), c, want)
				checkShape(t, "cut of no key", m.Cut(k), want)
			}
		}
	}
}

// P9.3: the Shapes of sums that are known.
func TestShape(t *testing.T) {
	nest := func(n int, inner string) string {
		return strings.Repeat("(0", n) + inner + strings.Repeat(")", n)
	}
	for _, x := range []struct {
		bits  int
		sums  []uint64
		shape string
	}{
		{64, nil, "()"},
		{64, []uint64{3}, "(3.)"},
		{64, []uint64{0}, "(0.)"},
		{64, []uint64{31}, "(31.)"},
		{64, []uint64{math.MaxUint64}, "(31.)"},
		{64, []uint64{1<<63 + 1<<5 + 3}, "(3.)"},
		{64, []uint64{31, 0, 10, 9}, "(0.9.10.31.)"},
		{64, []uint64{3, 3 + 32*4}, "(3(0.4.))"},
		{64, []uint64{3, 3 + 32*4, 4, 2}, "(2.3(0.4.)4.)"},
		{64, []uint64{3 + 32*7, 3 + 32*7 + 1024*31, 3}, "(3(0.7(0.31.)))"},
		{64, []uint64{3 + 32*7, 3 + 32*7 + 1024*31}, "(3(7(0.31.)))"},
		{64, []uint64{0, 1 << 59}, nest(11, "(0.16.)")},
		{64, []uint64{0, 1 << 60}, nest(12, "(0.1.)")},
		{64, []uint64{0, 1 << 63}, nest(12, "(0.8.)")},
		{64, []uint64{1 << 60, 15 << 60}, nest(12, "(1.15.)")},
		{64, []uint64{0, 0}, nest(13, "[2]")},
		{64, []uint64{0, 0, 0, 1 << 63}, nest(12, "(0[3]8.)")},
		{64, []uint64{0, 0, 1 << 63, 1 << 63, 1 << 62, 5}, nest(0, "(0") + nest(11, "(0[2]4.8[2])") + "5.)"},
		{63, []uint64{0, 1 << 63}, nest(13, "[2]")},
		{99, []uint64{0, 1 << 63}, nest(12, "(0.8.)")},
		{0, []uint64{9}, "(0.)"},
		{0, []uint64{1, 2}, nest(13, "[2]")},
		{-3, []uint64{1, 2, math.MaxUint64}, nest(13, "[3]")},
		{0, []uint64{1, 2, 3, 4, 5, 6, 7, 8, 9, 10, 11, 12}, nest(13, "[12]")},
		{1, []uint64{2, 3, 31}, "(0.1" + nest(12, "[2]") + ")"},
		{5, []uint64{33, 65}, "(1" + nest(12, "[2]") + ")"},
		{6, []uint64{33, 65}, "(1(0.1.))"},
		{7, []uint64{33, 65}, "(1(1.2.))"},
	} {
		c := api.Conf{Seed: 5, Bits: x.bits}
		m := New[int](c)
		want := map[string]int{}
		for i, sum := range x.sums {
			k := textOf(5, uint64(i)+3, sum)
			m, want[k] = m.Set(k, i), i
		}
		if s := m.Shape(); s != x.shape {
			t.Errorf("Shape of the sums %x of %d bits: %s; want %s", x.sums, x.bits, s, x.shape)
		}
		check(t, "of known sums", m, c, want)
		checkShape(t, "of known sums", m, want)
	}
}

// P9.2, P9.6: keys of one sum, also of all 64 bits, are apart, in whichever order they come and go.
func TestTwins(t *testing.T) {
	for _, c := range append(confs(), api.Conf{Seed: 5, Bits: 64}) {
		l := append(twins(c.Seed, 0xfedcba9876543210, 9), textOf(c.Seed, 1, 0x7edcba9876543210), "", "a")
		draw := drawer()
		for range 6 {
			m, want := New[int](c), map[string]int{}
			for range 40 {
				k, x := l[draw(len(l))], draw(100)
				if draw(2) == 0 {
					m, want[k] = m.Set(k, x), x
				} else {
					m = m.Cut(k)
					delete(want, k)
				}
				check(t, "twins", m, c, want)
				checkShape(t, "twins", m, want)
			}
		}
	}
	found := []string{strings.Repeat("\x00", 20), "\x9a" + strings.Repeat("\x00", 19), strings.Repeat("\x00", 12) + "\x01" + strings.Repeat("\x00", 7)}
	c := api.Conf{Seed: 5, Bits: 64}
	want := numbered(found)
	m := made(c, want)
	check(t, "found", m, c, want)
	checkShape(t, "found", m, want)
}

// P9.5: whatever was set first, and whatever was set and cut again, the Shape is that of the keys.
func TestOneShape(t *testing.T) {
	draw := drawer()
	for _, c := range confs() {
		all := append(texts(60), twins(c.Seed, 99, 6)...)
		l := all[10:]
		for range 8 {
			want := numbered(l[:1+draw(len(l))])
			shape := made(c, want).Shape()
			m := New[int](c)
			for _, k := range shuffled(all, draw) {
				m = m.Set(k, -1)
			}
			for _, k := range shuffled(all, draw) {
				if x, is := want[k]; is {
					m = m.Set(k, x)
				} else {
					m = m.Cut(k)
				}
			}
			if s := m.Shape(); s != shape {
				t.Fatalf("Shape of %v: %s; and %s", c, shape, s)
			}
			check(t, "cut again", m, c, want)
			checkShape(t, "cut again", m, want)
			for _, k := range shuffled(rising(want), draw) {
				m = m.Cut(k).Set(k, want[k])
				if s := m.Shape(); s != shape {
					t.Fatalf("Shape of %v with %q cut, and set again: %s; want %s", c, k, s, shape)
				}
			}
			for _, k := range shuffled(rising(want), draw) {
				m = m.Cut(k)
			}
			if m.Shape() != "()" {
				t.Fatalf("Shape of %v with nothing left: %s", c, m.Shape())
			}
		}
	}
}

// version is a map, and what it must have.
type version struct {
	m    Map[int]
	want map[string]int
}

// P9.4: many maps, each made of any one ahead of it, are in the end what they were when they were made.
func TestLasting(t *testing.T) {
	draw := drawer()
	for _, c := range fewConfs() {
		l := append(texts(20), twins(c.Seed, 4242, 5)...)
		all := []version{{New[int](c), nil}}
		for n := range 400 {
			of := all[draw(len(all))]
			if n%5 > 0 { // mostly of a late one, so that maps get great
				of = all[len(all)-1-draw(min(len(all), 4))]
			}
			k, x := l[draw(len(l))], draw(1000)
			want := map[string]int{}
			maps.Copy(want, of.want)
			if draw(4) > 0 {
				want[k] = x
				all = append(all, version{of.m.Set(k, x), want})
			} else {
				delete(want, k)
				all = append(all, version{of.m.Cut(k), want})
			}
		}
		greatest := 0
		for _, v := range all {
			check(t, "one of many", v.m, c, v.want)
			checkShape(t, "one of many", v.m, v.want)
			greatest = max(greatest, len(v.want))
		}
		if greatest < 15 {
			t.Errorf("no map got more keys than %d", greatest)
		}
	}
}

// P9.4: maps made of one leave each other alone.
func TestMadeOfOne(t *testing.T) {
	for _, c := range fewConfs() {
		two := twins(c.Seed, 8, 5)
		base := append(texts(5), two[:3]...)
		want := numbered(base)
		m := made(c, want)
		with := func(k string, x int) map[string]int {
			w := maps.Clone(want)
			w[k] = x
			return w
		}
		without := func(k string) map[string]int {
			w := maps.Clone(want)
			delete(w, k)
			return w
		}
		for _, k := range append(base, two[3], two[4], "new") {
			a, b, gone := m.Set(k, 1000), m.Set(k, 2000), m.Cut(k)
			back := gone.Set(k, 3000)
			check(t, "set", a, c, with(k, 1000))
			check(t, "set, too", b, c, with(k, 2000))
			check(t, "cut", gone, c, without(k))
			check(t, "cut and set", back, c, with(k, 3000))
			check(t, "itself", m, c, want)
		}
	}
}

// P9.6: what maps have does not hang on how they are built.
func TestConfsAgree(t *testing.T) {
	var l []Map[int]
	for _, c := range confs() {
		l = append(l, New[int](c))
	}
	draw := drawer()
	keys := texts(40)
	want := map[string]int{}
	for n := range 600 {
		k, x, cut := keys[draw(len(keys))], draw(50), draw(3) == 0
		if cut {
			delete(want, k)
		} else {
			want[k] = x
		}
		for i := range l {
			if cut {
				l[i] = l[i].Cut(k)
			} else {
				l[i] = l[i].Set(k, x)
			}
		}
		if n%60 == 59 {
			for _, m := range l {
				check(t, "after many", m, m.Conf(), want)
				checkShape(t, "after many", m, want)
			}
		}
	}
}

// P9.1 to P9.6: of many keys, with sums of all bits, and of few.
func TestMany(t *testing.T) {
	for _, x := range []struct{ bits, n int }{{64, 1 << 14}, {8, 3000}, {1, 2000}, {0, 2000}} {
		c := api.Conf{Seed: 11, Bits: x.bits}
		want := numbered(texts(x.n))
		m := made(c, want)
		check(t, "many", m, c, want)
		checkShape(t, "many", m, want)
		less := maps.Clone(want)
		for i, k := range rising(want) {
			if i%3 > 0 {
				m = m.Cut(k)
				delete(less, k)
			}
		}
		check(t, "a third", m, c, less)
		checkShape(t, "a third", m, less)
	}
}

// P9.1: keys are in the order of their bytes, not of their sums, letters or lengths.
func TestOrder(t *testing.T) {
	want := []string{"", "\x00", "\x00\x00", "\x00\x01", "\x01", "A", "Z", "a", "a\x00", "aa", "ab", "b", "é", "日", "\xfe\xff", "\xff", "\xff\x00"}
	for _, c := range confs() {
		m := made(c, numbered(want))
		if l := m.Keys(); !slices.Equal(l, want) {
			t.Errorf("Keys of %v: %q; want %q", c, l, want)
		}
		if l := pairs(m, -1); !slices.Equal(l, pairsOf(numbered(want))) {
			t.Errorf("All of %v: %v", c, l)
		}
	}
}

// P9.1: whoever goes through All may stop, and go through it again, or through two at once.
func TestAllMayBeLeft(t *testing.T) {
	for _, c := range fewConfs() {
		want := numbered(append(texts(10), twins(c.Seed, 1, 3)...))
		m, l := made(c, want), pairsOf(want)
		for n := range l {
			if got := pairs(m, n+1); !slices.Equal(got, l[:n+1]) {
				t.Fatalf("%d of %v: %v; want %v", n+1, c, got, l[:n+1])
			}
		}
		all := m.All()
		outer := 0
		for k := range all {
			var inner []pair
			for k, x := range all {
				inner = append(inner, pair{k, x})
			}
			if k != l[outer].k || !slices.Equal(inner, l) {
				t.Fatalf("All within itself at %q: %v; want %v", k, inner, l)
			}
			outer++
		}
		if outer != len(l) {
			t.Errorf("All of %v stopped after %d", c, outer)
		}
	}
}

// P9.1, P9.4: All has what the map had when it was asked, though others are made of it on the way.
func TestAllWhileOthersAreMade(t *testing.T) {
	for _, c := range fewConfs() {
		want := numbered(append(texts(10), twins(c.Seed, 1, 3)...))
		m := made(c, want)
		other := m
		var l []pair
		for k, x := range m.All() {
			l = append(l, pair{k, x})
			other = other.Set(k+"!", x).Set(k, -1)
			m = m.Cut(k).Set("zz", 5).Set("aa", 6)
		}
		if !slices.Equal(l, pairsOf(want)) {
			t.Errorf("All of %v: %v; want %v", c, l, pairsOf(want))
		}
		check(t, "what is left", m, c, map[string]int{"aa": 6, "zz": 5})
		if other.Len() != 2*len(want) {
			t.Errorf("the other one of %v has %d keys; want %d", c, other.Len(), 2*len(want))
		}
	}
}

// P9.1, R3: keys are in memory of their own; whoever gets them may write into it, and behind it.
func TestKeysAreOwn(t *testing.T) {
	for _, c := range fewConfs() {
		want := numbered(append(texts(10), twins(c.Seed, 1, 3)...))
		m := made(c, want)
		a, b := m.Keys(), m.Keys()
		for i := range a {
			a[i] = "written"
		}
		a = append(a[:1], "x", "y")
		if !slices.Equal(b, rising(want)) || len(a) != 3 {
			t.Errorf("two lists of keys of %v share", c)
		}
		check(t, "itself", m, c, want)
	}
}

// P1, R4: the same is answered once more, whatever was asked between.
func TestTheSameOnceMore(t *testing.T) {
	type answers struct {
		n, got int
		has    bool
		shape  string
		keys   string
	}
	ask := func(c api.Conf, k string) answers {
		m := made(c, numbered(texts(20))).Cut(k).Set(k+"x", 4).Set("a", 7)
		a := answers{n: m.Len(), shape: m.Shape(), keys: strings.Join(m.Keys(), ",")}
		a.got, a.has = m.Get(k)
		return a
	}
	var l []answers
	for _, c := range confs() {
		for _, k := range texts(3) {
			l = append(l, ask(c, k))
		}
	}
	for i, c := range slices.Backward(confs()) {
		for j, k := range slices.Backward(texts(3)) {
			if a, was := ask(c, k), l[i*len(texts(3))+j]; a != was {
				t.Errorf("of %v and %q: %v, then %v", c, k, was, a)
			}
		}
	}
}

// branch is what a map may be part of, and have, at once.
type branch struct {
	Map[branch]
	name string
}

// A map is of any type: of texts, lists, maps, functions, nothing at all, and of what has maps itself.
func TestOfAnyType(t *testing.T) {
	texts := New[string](api.Conf{Bits: 64}).Set("a", "").Set("", "x")
	if s, ok := texts.Get("a"); s != "" || !ok || texts.Len() != 2 {
		t.Errorf("an empty text: %q, %v", s, ok)
	}
	lists := New[[]int](api.Conf{}).Set("a", nil).Set("b", []int{1})
	if l, ok := lists.Get("a"); l != nil || !ok {
		t.Errorf("no list: %v, %v", l, ok)
	}
	functions := New[func() string](api.Conf{}).Set("f", func() string { return "f" }).Set("g", nil)
	if f, ok := functions.Get("f"); !ok || f() != "f" {
		t.Error("no function")
	}
	if f, ok := functions.Get("h"); ok || f != nil {
		t.Error("a function that is not there")
	}
	marks := New[struct{}](api.Conf{Bits: 2}).Set("a", struct{}{}).Set("b", struct{}{}).Set("a", struct{}{})
	if _, ok := marks.Get("a"); !ok || marks.Len() != 2 {
		t.Errorf("marks: %d", marks.Len())
	}
	anything := New[any](api.Conf{}).Set("a", nil).Set("b", 5).Set("c", "x")
	if x, ok := anything.Cut("b").Get("a"); x != nil || !ok {
		t.Errorf("anything: %v, %v", x, ok)
	}
	root := branch{name: "root"}
	root.Map = root.Set("inner", branch{New[branch](api.Conf{Bits: 3}).Set("far", branch{name: "far"}), "inner"})
	inner, _ := root.Get("inner")
	if far, ok := inner.Get("far"); !ok || far.name != "far" || far.Len() != 0 || root.Len() != 1 {
		t.Errorf("a branch in a branch: %q, %v", far.name, ok)
	}
}

// Ways: Map is generic; a node embeds a row, and is asked by what that has; keys are laid in order by a closure; nothing is written into what a node has.
func TestWays(t *testing.T) {
	file, err := parser.ParseFile(token.NewFileSet(), "hamt.go", nil, 0)
	if err != nil {
		t.Fatal(err)
	}
	found := map[string]bool{}
	ast.Inspect(file, func(n ast.Node) bool {
		switch x := n.(type) {
		case *ast.TypeSpec:
			if x.Name.Name == "Map" && x.TypeParams != nil {
				found["generic"] = true
			}
			if x.Name.Name == "node" && embedsRow(x.Type) {
				found["embedding"] = true
			}
		case *ast.CallExpr:
			if isCall(x, "n", "Get", "Set", "Cut", "First", "All") {
				found["promoted"] = true
			}
			if isCall(x, "slices", "SortFunc") {
				if _, ok := x.Args[1].(*ast.FuncLit); ok {
					found["closure"] = true
				}
			}
			if isCall(x, "slices", "Insert", "Delete", "Replace", "Sort") {
				t.Error("a list is written to")
			}
		case *ast.AssignStmt:
			for _, e := range x.Lhs {
				if _, ok := e.(*ast.IndexExpr); ok {
					t.Error("a list is written to")
				}
			}
		}
		return true
	})
	for _, way := range []string{"generic", "embedding", "promoted", "closure"} {
		if !found[way] {
			t.Errorf("not found: %s", way)
		}
	}
	for _, i := range file.Imports {
		if path, _ := strconv.Unquote(i.Path.Value); strings.HasPrefix(path, "placket/") && !slices.Contains([]string{"api", "mix", "num", "quote", "sparse"}, path[len("placket/"):]) {
			t.Errorf("hamt does not stand on %s", path)
		}
	}
}

// embedsRow tells whether e is a struct that embeds a sparse.Row.
func embedsRow(e ast.Expr) bool {
	s, ok := e.(*ast.StructType)
	if !ok {
		return false
	}
	for _, f := range s.Fields.List {
		of, ok := f.Type.(*ast.IndexExpr)
		if !ok || len(f.Names) > 0 {
			continue
		}
		if row, ok := of.X.(*ast.SelectorExpr); ok && row.Sel.Name == "Row" {
			return true
		}
	}
	return false
}

// isCall tells whether x calls one of these of what has that name.
func isCall(x *ast.CallExpr, of string, names ...string) bool {
	f, ok := x.Fun.(*ast.SelectorExpr)
	if !ok {
		return false
	}
	who, ok := f.X.(*ast.Ident)
	return ok && who.Name == of && slices.Contains(names, f.Sel.Name)
}
