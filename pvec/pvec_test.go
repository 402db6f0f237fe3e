package pvec

import (
	"go/ast"
	"go/parser"
	"go/token"
	"math"
	"slices"
	"strconv"
	"testing"

	"placket/api"
)

// next is a word that looks like any other one.
func next(word uint64) uint64 {
	return word*6364136223846793005 + 1442695040888963407
}

// numbers are n things, some of them 0, few of them the same.
func numbers(n int) []int {
	l := make([]int, n)
	for i := range l {
		if i%11 > 0 {
			l[i] = i*7 - 300
		}
	}
	return l
}

// changed is l with x at i, in memory of its own.
func changed(l []int, i, x int) []int {
	l = slices.Clone(l)
	l[i] = x
	return l
}

// levelsOf is the fewest levels that have room for all of n things that are not in the tail, reckoned from the chapter's words.
func levelsOf(n int) int {
	others := 0
	for others+32 < n {
		others += 32
	}
	if others == 0 {
		return 0
	}
	count, room := 1, 32
	for room < others {
		count, room = count+1, room*32
	}
	return count
}

// sizes are small lengths, and those about which a leaf, a tail or a level begins or ends.
func sizes() []int {
	l := []int{0, 1, 2, 16, 31, 32, 33, 34, 63, 64, 65, 96, 97, 100, 128, 129, 1000}
	for _, n := range []int{1024, 1056, 1088, 2048, 2080} {
		l = append(l, n-1, n, n+1)
	}
	return l
}

// highSizes are those about which the fourth level begins, and what lies within it.
func highSizes() []int {
	return []int{32767, 32768, 32769, 32799, 32800, 32801, 32832, 32833, 33792, 33793, 33824, 33825, 65568, 65569, 100000}
}

// noPlaces are no places of n things, though some are after they are wrapped round, or from the end.
func noPlaces(n int) []int {
	l := []int{-1, -2, -32, -33, -n - 1, -n - 32, n, n + 1, n + 31, n + 32, 2*n + 1, n + 1024, n + 1<<31, n + 1<<32, n + 1<<60, n - 1<<32, math.MaxInt, math.MaxInt - 31, math.MinInt, math.MinInt + 3}
	if n > 0 {
		l = append(l, -n, n-1+1<<32, n-1-1<<32)
	}
	return l
}

// pair is a place, and what it has.
type pair struct {
	i, x int
}

// pairs is what All gives, up to (with) the n-th one.
func pairs(v Vec[int], n int) []pair {
	var l []pair
	for i, x := range v.All() {
		l = append(l, pair{i, x})
		if len(l) == n {
			break
		}
	}
	return l
}

// pairsOf is what All must give of l.
func pairsOf(l []int) []pair {
	var all []pair
	for i, x := range l {
		all = append(all, pair{i, x})
	}
	return all
}

// check asks v for all that it has.
func check(t *testing.T, name string, v Vec[int], want []int) {
	t.Helper()
	if n := v.Len(); n != len(want) {
		t.Fatalf("%s: Len %d; want %d", name, n, len(want))
	}
	if n := v.Levels(); n != levelsOf(len(want)) {
		t.Errorf("%s: Levels %d of %d; want %d", name, n, len(want), levelsOf(len(want)))
	}
	for i, y := range want {
		if x, ok := v.Get(i); x != y || !ok {
			t.Fatalf("%s: Get(%d) of %d: %d, %v; want %d", name, i, len(want), x, ok, y)
		}
	}
	for _, i := range noPlaces(len(want)) {
		if x, ok := v.Get(i); x != 0 || ok {
			t.Errorf("%s: Get(%d) of %d: %d, %v", name, i, len(want), x, ok)
		}
	}
	if l := v.List(); !slices.Equal(l, want) {
		t.Errorf("%s: List: %v; want %v", name, l, want)
	}
	if l := pairs(v, -1); !slices.Equal(l, pairsOf(want)) {
		t.Errorf("%s: All: %v; want %v", name, l, want)
	}
	checkTrie(t, name, v)
}

// checkTrie looks at how v lies in its tail and its trie.
func checkTrie(t *testing.T, name string, v Vec[int]) {
	t.Helper()
	if tail := len(v.tail); tail > 32 || tail == 0 && v.n > 0 || (v.n-tail)%32 != 0 {
		t.Fatalf("%s: a tail of %d of %d things", name, tail, v.n)
	}
	if cap(v.tail) != len(v.tail) {
		t.Errorf("%s: a tail of %d takes room for %d", name, len(v.tail), cap(v.tail))
	}
	others := v.n - len(v.tail)
	if others == 0 {
		if v.root.kids != nil || v.root.leaf != nil {
			t.Errorf("%s: a trie of nothing", name)
		}
		return
	}
	if v.root.leaf == nil && len(v.root.kids) < 2 {
		t.Errorf("%s: a root of %d kids", name, len(v.root.kids))
	}
	if n := checkNode(t, name, v.root, levelsOf(v.n), true); n != others {
		t.Errorf("%s: a trie of %d; want %d", name, n, others)
	}
}

// checkNode looks at a node of that level, the last one or not, and tells how many things lie below it.
func checkNode(t *testing.T, name string, n node[int], level int, last bool) int {
	t.Helper()
	if level == 1 {
		if len(n.leaf) != 32 || cap(n.leaf) != 32 || n.kids != nil {
			t.Errorf("%s: a leaf of %d with %d kids", name, len(n.leaf), len(n.kids))
		}
		return len(n.leaf)
	}
	if k := len(n.kids); n.leaf != nil || k == 0 || k > 32 || k < 32 && !last || cap(n.kids) != k {
		t.Errorf("%s: at level %d a node of %d kids", name, level, k)
	}
	sum := 0
	for k, kid := range n.kids {
		sum += checkNode(t, name, kid, level-1, last && k == len(n.kids)-1)
	}
	return sum
}

// somePlaces are all places of n things, or about every leaf's begin and end, if there are many.
func somePlaces(n int) []int {
	var l []int
	for i := range n {
		if n <= 130 || i < 3 || i > n-40 || i%1024 < 2 || i%1024 > 1022 || i%96 == 31 || i%96 == 32 {
			l = append(l, i)
		}
	}
	return l
}

// P7.1, R5, R6: the zero Vec is empty, as is that of a nil list, and of an empty one; all can be asked of it.
func TestNothing(t *testing.T) {
	for _, v := range []Vec[int]{{}, Of[int](), Of[int](nil...), Of([]int{}...), Of(make([]int, 0, 5)...), Vec[int]{}.Push(), Vec[int]{}.Push(nil...), Of(3).Keep(0)} {
		check(t, "nothing", v, nil)
		for _, n := range []int{0, 1, -1, 32, math.MaxInt, math.MinInt} {
			check(t, "kept", v.Keep(n), nil)
		}
		for _, i := range append(noPlaces(0), 0) {
			if set, e := v.Set(i, 5); e != api.ErrRange || set.Len() != 0 {
				t.Errorf("Set(%d): %d, %v", i, set.Len(), e)
			}
		}
		popped, x, ok := v.Pop()
		if x != 0 || ok {
			t.Errorf("Pop: %d, %v", x, ok)
		}
		check(t, "popped", popped, nil)
		check(t, "popped, and pushed", popped.Push(0), []int{0})
		check(t, "pushed", v.Push(numbers(70)...), numbers(70))
		for range v.All() {
			t.Error("All gives something")
		}
		check(t, "itself", v, nil)
	}
	if s, ok := (Vec[string]{}).Get(0); s != "" || ok {
		t.Errorf("Get: %q, %v", s, ok)
	}
	if _, l, ok := (Vec[[]byte]{}).Pop(); l != nil || ok {
		t.Errorf("Pop: %v, %v", l, ok)
	}
}

// The chapter's examples, and what lies about them.
func TestExamples(t *testing.T) {
	for _, y := range []struct{ n, tail, levels int }{{0, 0, 0}, {1, 1, 0}, {31, 31, 0}, {32, 32, 0}, {33, 1, 1}, {64, 32, 1}, {65, 1, 2}, {1056, 32, 2}, {1057, 1, 3}, {32800, 32, 3}, {32801, 1, 4}} {
		v := Of(numbers(y.n)...)
		if v.Levels() != y.levels || len(v.tail) != y.tail {
			t.Errorf("of %d things %d levels, and %d in the tail; want %d, %d", y.n, v.Levels(), len(v.tail), y.levels, y.tail)
		}
	}
}

// P7.1.
func TestAsked(t *testing.T) {
	for n := range 140 {
		check(t, "a vector", Of(numbers(n)...), numbers(n))
	}
	for _, n := range append(sizes(), highSizes()...) {
		check(t, "a vector", Of(numbers(n)...), numbers(n))
	}
}

// P7.1, P7.5: five levels, asked at some places.
func TestFiveLevels(t *testing.T) {
	full := 1<<20 + 32
	v := Of(numbers(full)...)
	if v.Levels() != 4 {
		t.Errorf("Levels %d of %d", v.Levels(), full)
	}
	more := v.Push(5)
	set, e := more.Set(77777, 6)
	if more.Levels() != 5 || set.Levels() != 5 || e != api.OK {
		t.Errorf("Levels %d, %d of %d; %v", more.Levels(), set.Levels(), full+1, e)
	}
	check(t, "one more", more, append(numbers(full), 5))
	check(t, "one more, set", set, changed(append(numbers(full), 5), 77777, 6))
	back, x, ok := more.Pop()
	if x != 5 || !ok {
		t.Errorf("Pop: %d, %v", x, ok)
	}
	check(t, "back", back, numbers(full))
	for _, n := range []int{0, 32, 33, 1056, 1057, 32800, 32801, full - 1} {
		check(t, "kept of five levels", more.Keep(n), numbers(full)[:n])
	}
	check(t, "itself", v, numbers(full))
}

// P7.1: whoever goes through All may stop, and go through it again, or through two at once.
func TestAllMayBeLeft(t *testing.T) {
	for _, n := range []int{1, 2, 32, 33, 64, 65, 97, 1057} {
		v, want := Of(numbers(n)...), pairsOf(numbers(n))
		for k := range n {
			if l := pairs(v, k+1); !slices.Equal(l, want[:k+1]) {
				t.Errorf("%d of %d: %v; want %v", k+1, n, l, want[:k+1])
			}
		}
	}
	v, want := Of(numbers(70)...), pairsOf(numbers(70))
	all := v.All()
	outer := 0
	for i := range all {
		var inner []pair
		for k, x := range all {
			inner = append(inner, pair{k, x})
		}
		if i != outer || !slices.Equal(inner, want) {
			t.Errorf("All within itself at %d: %v; want %v", i, inner, want)
		}
		outer++
	}
	if outer != 70 {
		t.Errorf("All of 70 stopped after %d", outer)
	}
}

// P7.1, P7.3: All has what the vector had when it was asked, though others are made of it on the way.
func TestAllWhileOthersAreMade(t *testing.T) {
	v := Of(numbers(100)...)
	made := v
	var l []pair
	for i, x := range v.All() {
		l = append(l, pair{i, x})
		made = made.Push(i, x)
		made, _ = made.Set(i, -1)
		made = made.Keep(made.Len() - 1)
		v, _ = v.Set(99-i, 5)
		v, _, _ = v.Pop()
	}
	if !slices.Equal(l, pairsOf(numbers(100))) {
		t.Errorf("All: %v; want %v", l, numbers(100))
	}
	check(t, "without all", v, nil)
}

// P7.1, R3: a list is memory of its own; whoever gets it may write into it, and behind it.
func TestList(t *testing.T) {
	for _, n := range []int{1, 31, 32, 33, 64, 65, 100, 1057} {
		v := Of(numbers(n)...)
		a, b := v.List(), v.List()
		for i := range a {
			a[i] = -5
		}
		if !slices.Equal(b, numbers(n)) {
			t.Errorf("two lists of %d share", n)
		}
		a = append(a[:n/2], 9, 9, 9)
		check(t, "the vector", v, numbers(n))
		check(t, "pushed", v.Push(4), append(numbers(n), 4))
		if !slices.Equal(v.List(), numbers(n)) || len(a) != n/2+3 {
			t.Errorf("a third list of %d", n)
		}
	}
}

// P7.2, R2: at each place, and at none.
func TestSet(t *testing.T) {
	for _, n := range sizes() {
		l := numbers(n)
		v := Of(l...)
		for _, i := range somePlaces(n) {
			set, e := v.Set(i, -1)
			if e != api.OK {
				t.Fatalf("Set(%d) of %d: %v", i, n, e)
			}
			check(t, "set", set, changed(l, i, -1))
			set, e = set.Set(i, 0)
			if e != api.OK {
				t.Fatalf("Set(%d) of %d: %v", i, n, e)
			}
			check(t, "set twice", set, changed(l, i, 0))
		}
		for _, i := range noPlaces(n) {
			set, e := v.Set(i, 5)
			if e != api.ErrRange || set.Len() != 0 {
				t.Errorf("Set(%d) of %d: %d things, %v", i, n, set.Len(), e)
			}
			check(t, "set at none", set, nil)
		}
		check(t, "the vector itself", v, l)
	}
}

// P7.2, P7.3: with four levels.
func TestSetFarDown(t *testing.T) {
	n := 33825
	l := numbers(n)
	v := Of(l...)
	set, want := v, slices.Clone(l)
	for _, i := range []int{0, 31, 32, 1023, 1024, 32767, 32768, 33791, 33792, 33823, 33824} {
		var e api.Errno
		if set, e = set.Set(i, -i-1); e != api.OK {
			t.Fatalf("Set(%d): %v", i, e)
		}
		want[i] = -i - 1
		check(t, "set", set, want)
	}
	check(t, "the vector itself", v, l)
}

// P7.2: one by one, and asked each time.
func TestPush(t *testing.T) {
	l := numbers(1130)
	var v Vec[int]
	for n, x := range l {
		check(t, "on the way", v, l[:n])
		v = v.Push(x)
		check(t, "pushed none", v.Push(), l[:n+1])
	}
	check(t, "in the end", v, l)
}

// P7.2: many at once, behind any number of others.
func TestPushMany(t *testing.T) {
	l := numbers(2300)
	for _, n := range sizes() {
		v := Of(l[:n]...)
		for _, more := range []int{0, 1, 2, 31, 32, 33, 63, 64, 65, 100} {
			check(t, "pushed", v.Push(l[n:n+more]...), l[:n+more])
		}
		check(t, "the vector itself", v, l[:n])
	}
	for _, n := range []int{0, 1, 31, 32, 33, 65, 1056, 1057} {
		for _, more := range []int{1000, 1024, 1056, 1057, 1100} {
			check(t, "pushed", Of(l[:n]...).Push(l[n:n+more]...), l[:n+more])
		}
	}
	l = numbers(40000)
	for _, n := range []int{0, 20, 1057} {
		check(t, "pushed up to four levels", Of(l[:n]...).Push(l[n:]...), l)
	}
}

// P7.2, P7.4: what was pushed is popped, the last one first, down to nothing.
func TestPop(t *testing.T) {
	l := numbers(1130)
	v := Of(l...)
	for n := len(l) - 1; n >= 0; n-- {
		popped, x, ok := v.Pop()
		if x != l[n] || !ok {
			t.Fatalf("Pop of %d: %d, %v; want %d", n+1, x, ok, l[n])
		}
		check(t, "popped", popped, l[:n])
		v = popped
	}
	for range 3 {
		popped, x, ok := v.Pop()
		if x != 0 || ok {
			t.Errorf("Pop of none: %d, %v", x, ok)
		}
		check(t, "popped of none", popped, nil)
		v = popped
	}
}

// P7.2: any number of first things; none below 0, all above Len.
func TestKeep(t *testing.T) {
	for _, n := range sizes() {
		l := numbers(n)
		v := Of(l...)
		for _, k := range append(somePlaces(n), n) {
			kept := v.Keep(k)
			check(t, "kept", kept, l[:k])
			check(t, "kept, and pushed", kept.Push(-1, -2), append(slices.Clone(l[:k]), -1, -2))
		}
		for _, k := range []int{-1, -2, -32, -33, -n, -n - 1, 1 - 1<<32, math.MinInt} {
			check(t, "kept none", v.Keep(k), l[:0])
		}
		for _, k := range []int{n, n + 1, n + 32, n + 1<<31, 1 + n + 1<<32, math.MaxInt} {
			check(t, "kept all", v.Keep(k), l)
		}
		check(t, "the vector itself", v, l)
	}
}

// P7.2, P7.5: of four levels, each number of levels is kept, and grows again.
func TestKeepOfFourLevels(t *testing.T) {
	l := numbers(66000)
	v := Of(l...)
	for _, k := range append(append(sizes(), highSizes()[:14]...), 65999) {
		kept := v.Keep(k)
		check(t, "kept", kept, l[:k])
		again := min(k+1100, len(l))
		check(t, "kept, and pushed", kept.Push(l[k:again]...), l[:again])
	}
	check(t, "the vector itself", v, l)
}

// R3: the lists that are handed in are not changed, nor kept, whatever their capacity.
func TestListsAreLeft(t *testing.T) {
	for _, n := range []int{1, 5, 31, 32, 33, 64, 65, 1057} {
		room := numbers(n + 40)
		l := room[:n]
		v := Of(l...)
		w := Of(7).Push(l...)
		x := Of(numbers(32)...).Push(l...)
		set, _ := v.Set(n-1, 5)
		set, _ = set.Set(0, 6)
		set.Push(8, 9).Push(1)
		v.Push(3, 4)
		if !slices.Equal(room, numbers(n+40)) {
			t.Errorf("a list of %d is changed", n)
		}
		for i := range room {
			room[i] = -9
		}
		check(t, "Of", v, numbers(n))
		check(t, "pushed", w, append([]int{7}, numbers(n)...))
		check(t, "pushed behind a tail that is full", x, append(numbers(32), numbers(n)...))
	}
}

// made is a vector, and what it must have.
type made struct {
	v Vec[int]
	l []int
}

// another is one made of m, by what draw says.
func another(t *testing.T, m made, draw func(int) int) made {
	n := len(m.l)
	switch what := draw(7); {
	case what == 0 && n > 0:
		i, x := draw(n), draw(1000)
		v, e := m.v.Set(i, x)
		if e != api.OK {
			t.Fatalf("Set(%d) of %d: %v", i, n, e)
		}
		return made{v, changed(m.l, i, x)}
	case what == 1:
		k := draw(n + 1)
		return made{m.v.Keep(k), m.l[:k:k]}
	case what == 2 && n > 0:
		v, x, ok := m.v.Pop()
		if x != m.l[n-1] || !ok {
			t.Fatalf("Pop of %d: %d, %v; want %d", n, x, ok, m.l[n-1])
		}
		return made{v, m.l[: n-1 : n-1]}
	case what == 3:
		x := draw(1000)
		return made{m.v.Push(x), append(slices.Clone(m.l), x)}
	}
	more := make([]int, draw(90))
	for i := range more {
		more[i] = draw(1000)
	}
	return made{m.v.Push(more...), append(slices.Clone(m.l), more...)}
}

// P7.3: many vectors, each made of any one ahead of it, are in the end what they were when they were made.
func TestLasting(t *testing.T) {
	all := []made{{}}
	word := uint64(1)
	draw := func(n int) int {
		word = next(word)
		return int(word >> 33 % uint64(n))
	}
	for n := range 1500 {
		of := all[draw(len(all))]
		if n%5 > 0 { // mostly of a late one, so that vectors get long
			of = all[len(all)-1-draw(min(len(all), 4))]
		}
		all = append(all, another(t, of, draw))
	}
	longest := 0
	for _, m := range all {
		check(t, "one of many", m.v, m.l)
		longest = max(longest, len(m.l))
	}
	if longest < 150 {
		t.Errorf("no vector got longer than %d", longest)
	}
}

// P7.3: vectors made of one leave each other alone, wherever they are set, pushed, popped and cut.
func TestMadeOfOne(t *testing.T) {
	for _, n := range []int{1, 5, 31, 32, 33, 64, 65, 97, 1055, 1056, 1057, 1058} {
		l := numbers(n)
		v := Of(l...)
		a, b := v.Push(1), v.Push(2, 3)
		c, x, _ := v.Pop()
		d, e := c.Push(4), c.Push(5)
		f, g := v.Keep(n/2).Push(6), v.Keep(n/2).Push(7)
		h, _ := v.Set(n/2, 8)
		i, _ := v.Set(n-1, 9)
		j, _ := h.Set(0, 10)
		check(t, "pushed", a, append(slices.Clone(l), 1))
		check(t, "pushed, too", b, append(slices.Clone(l), 2, 3))
		check(t, "popped", c, l[:n-1])
		check(t, "popped, and pushed", d, changed(l, n-1, 4))
		check(t, "popped, and pushed, too", e, changed(l, n-1, 5))
		check(t, "popped, and pushed again", c.Push(x), l)
		check(t, "kept, and pushed", f, append(slices.Clone(l[:n/2]), 6))
		check(t, "kept, and pushed, too", g, append(slices.Clone(l[:n/2]), 7))
		check(t, "set", h, changed(l, n/2, 8))
		check(t, "set, too", i, changed(l, n-1, 9))
		check(t, "set twice", j, changed(changed(l, n/2, 8), 0, 10))
		check(t, "the vector itself", v, l)
	}
}

// P7.4: what is left when all that was pushed is popped is the vector as it was.
func TestBack(t *testing.T) {
	for _, n := range []int{0, 1, 31, 32, 33, 63, 64, 65, 1024, 1055, 1056, 1057} {
		l, more := numbers(n), numbers(1200)
		v := Of(l...).Push(more...)
		for _, want := range slices.Backward(more) {
			var x int
			var ok bool
			if v, x, ok = v.Pop(); x != want || !ok {
				t.Fatalf("Pop: %d, %v; want %d", x, ok, want)
			}
		}
		check(t, "back", v, l)
		check(t, "back, and pushed", v.Push(more...), append(slices.Clone(l), more...))
	}
}

// P7.5: of one length, however they came about, of the same levels; the tries hold 32 in each leaf, and have no level too many.
func TestFlat(t *testing.T) {
	long := Of(numbers(70000)...)
	for _, n := range append(sizes(), highSizes()[:14]...) {
		l := numbers(n)
		at := n / 3
		set := long.Keep(n)
		for i := 0; i < n; i += 777 {
			set, _ = set.Set(i, l[i])
		}
		ones := Of(l[:at]...)
		for _, x := range l[at:] {
			ones = ones.Push(x)
		}
		popped := Of(l...).Push(numbers(40)...)
		for range 40 {
			popped, _, _ = popped.Pop()
		}
		all := []Vec[int]{Of(l...), Of(l[:at]...).Push(l[at:]...), ones, long.Keep(n), long.Keep(at).Push(l[at:]...), set, popped}
		for k, v := range all {
			if v.Levels() != all[0].Levels() {
				t.Errorf("the way %d to %d things: Levels %d; want %d", k, n, v.Levels(), all[0].Levels())
			}
			check(t, "by the way "+strconv.Itoa(k), v, l)
		}
	}
}

// P1, R4: the same is answered once more, whatever was asked between.
func TestTheSameOnceMore(t *testing.T) {
	type answers struct {
		n, levels, got, popped, left int
		ok, any                      bool
		e                            api.Errno
	}
	ask := func(n, i int) answers {
		v := Of(numbers(n)...).Push(i).Keep(n + i%3)
		a := answers{n: v.Len(), levels: v.Levels()}
		a.got, a.ok = v.Get(i)
		set, e := v.Set(i, 5)
		a.e = e
		left, x, ok := set.Pop()
		a.popped, a.any, a.left = x, ok, left.Len()
		return a
	}
	places := []int{-1, 0, 1, 31, 32, 63, 64, 1000, 1055, 1056, 5000, math.MaxInt, math.MinInt}
	var l []answers
	for _, n := range sizes() {
		for _, i := range places {
			l = append(l, ask(n, i))
		}
	}
	for at, n := range slices.Backward(sizes()) {
		for k, i := range slices.Backward(places) {
			if a, was := ask(n, i), l[at*len(places)+k]; a != was {
				t.Errorf("of %d and %d: %v, then %v", n, i, was, a)
			}
		}
	}
}

// branch is what a vector may be part of, and have, at once.
type branch struct {
	Vec[branch]
	name string
}

// A vector is of any type: of texts, lists, vectors, functions, nothing at all, and of what has vectors itself.
func TestOfAnyType(t *testing.T) {
	texts := Of("a", "", "c")
	if s, ok := texts.Get(1); s != "" || !ok || texts.Len() != 3 {
		t.Errorf("an empty text: %q, %v", s, ok)
	}
	lists := Of([]int{1}, nil).Push([]int{})
	if l, ok := lists.Get(1); l != nil || !ok {
		t.Errorf("no list: %v, %v", l, ok)
	}
	vectors := Of(texts, Vec[string]{}, texts.Push("d"))
	if v, ok := vectors.Get(2); !ok || v.Len() != 4 {
		t.Errorf("a vector in a vector: %d, %v", v.Len(), ok)
	}
	functions := Of(func() string { return "f" }, nil)
	if f, ok := functions.Get(0); !ok || f() != "f" {
		t.Error("no function")
	}
	marks := Of(make([]struct{}, 1057)...).Push(struct{}{})
	if _, ok := marks.Get(1057); !ok || marks.Len() != 1058 || marks.Levels() != 3 || len(marks.List()) != 1058 {
		t.Errorf("marks: %d, %d", marks.Len(), marks.Levels())
	}
	anything := Of[any](nil, 5, "x")
	if _, x, ok := anything.Keep(1).Pop(); x != nil || !ok {
		t.Errorf("anything: %v, %v", x, ok)
	}
	root := branch{Of(branch{name: "leaf"}, branch{Of(branch{name: "far"}), "inner"}), "root"}
	inner, _ := root.Get(1)
	if far, ok := inner.Get(0); !ok || far.name != "far" || far.Len() != 0 || root.Len() != 2 {
		t.Errorf("a branch in a branch: %q, %v", far.name, ok)
	}
}

// Ways: vectors are generic; what is pushed is a list of any length; List or another goes through All; nodes are copied, and nothing is written into what a vector or a node has.
func TestWays(t *testing.T) {
	file, err := parser.ParseFile(token.NewFileSet(), "pvec.go", nil, 0)
	if err != nil {
		t.Fatal(err)
	}
	generic, variadic, ranged, copied := false, false, false, false
	ast.Inspect(file, func(n ast.Node) bool {
		switch x := n.(type) {
		case *ast.TypeSpec:
			generic = generic || x.Name.Name == "Vec" && x.TypeParams != nil
		case *ast.FuncDecl:
			variadic = variadic || x.Name.Name == "Push" && isVariadic(x)
		case *ast.RangeStmt:
			ranged = ranged || calls(x.X, "All")
		case *ast.CallExpr:
			copied = copied || calls(x, "copy")
		case *ast.AssignStmt:
			for _, e := range x.Lhs {
				if i, ok := e.(*ast.IndexExpr); ok && isPart(i.X) {
					t.Error("a vector's list is written to")
				}
			}
		}
		return true
	})
	if !generic || !variadic {
		t.Error("Vec is not generic, or Push not variadic")
	}
	if !ranged {
		t.Error("nothing goes through All")
	}
	if !copied {
		t.Error("no list is copied")
	}
}

// isVariadic tells whether f is handed a list of any length.
func isVariadic(f *ast.FuncDecl) bool {
	for _, p := range f.Type.Params.List {
		if _, ok := p.Type.(*ast.Ellipsis); ok {
			return true
		}
	}
	return false
}

// calls tells whether e calls what has that name.
func calls(e ast.Expr, name string) bool {
	c, ok := e.(*ast.CallExpr)
	if !ok {
		return false
	}
	switch f := c.Fun.(type) {
	case *ast.Ident:
		return f.Name == name
	case *ast.SelectorExpr:
		return f.Sel.Name == name
	}
	return false
}

// isPart tells whether e is a list of a vector, or of a node.
func isPart(e ast.Expr) bool {
	s, ok := e.(*ast.SelectorExpr)
	return ok && (s.Sel.Name == "tail" || s.Sel.Name == "kids" || s.Sel.Name == "leaf")
}
