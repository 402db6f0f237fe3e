package rope

import (
	"go/ast"
	"go/parser"
	"go/token"
	"math"
	"slices"
	"strconv"
	"testing"

	"placket/api"
)

// drawer draws numbers below n that look like any other ones, the same ones each time.
func drawer() func(n int) int {
	word := uint64(1)
	return func(n int) int {
		word = word*6364136223846793005 + 1442695040888963407
		return int(word >> 33 % uint64(n))
	}
}

// numbers are n things, some of them 0, few of them the same.
func numbers(n int) []int {
	l := make([]int, n)
	for i := range l {
		if i%11 > 0 {
			l[i] = i*7 - 300
		}
	}
	return l
}

// changed is l with x at i, in memory of its own.
func changed(l []int, i, x int) []int {
	l = slices.Clone(l)
	l[i] = x
	return l
}

// inserted is l with x ahead of what is at i, in memory of its own.
func inserted(l []int, i, x int) []int {
	return slices.Concat(l[:i], []int{x}, l[i:])
}

// removed is l without what is at i, in memory of its own.
func removed(l []int, i int) []int {
	return slices.Concat(l[:i], l[i+1:])
}

// cut is the piece of l from lo up to hi, reckoned from the words of num's chapter.
func cut(l []int, lo, hi int) []int {
	begin, end := bound(lo, len(l)), bound(hi, len(l))
	if end < begin {
		end = begin
	}
	return l[begin:end:end]
}

// bound is where i is in a list of n.
func bound(i, n int) int {
	switch {
	case i >= n:
		return n
	case i >= 0:
		return i
	case i < -n:
		return 0
	}
	return n + i
}

// sizes are small lengths, and those about which a node is full, or half full, or a depth begins or ends.
func sizes() []int {
	l := []int{0, 1, 2, 3, 7, 8, 9, 15, 16, 17, 18, 23, 24, 25, 31, 32, 33, 34, 47, 48, 49, 64, 65, 100}
	for _, n := range []int{128, 256, 272, 1024} {
		l = append(l, n-1, n, n+1)
	}
	return l
}

// highSizes are those about which the fourth depth may begin, and ones with a depth more.
func highSizes() []int {
	return []int{2048, 4095, 4096, 4097, 4352, 4353, 8192, 20000, 65536, 65537}
}

// noPlaces are no places of n things, nor the one behind them, though some are after they are wrapped round, or from the end.
func noPlaces(n int) []int {
	l := []int{-1, -2, -8, -16, -n - 1, -n - 16, n + 1, n + 2, n + 8, n + 16, 2*n + 1, n + 256, n + 1<<31, n + 1<<32, n + 1<<60, n - 1<<32, math.MaxInt, math.MaxInt - 15, math.MinInt, math.MinInt + 3}
	if n > 0 {
		l = append(l, -n, n-1+1<<32, n-1-1<<32)
	}
	return l
}

// somePlaces are all places of n things, or some from all over them, if there are many.
func somePlaces(n int) []int {
	var l []int
	for i := range n {
		if n <= 130 || i < 3 || i > n-4 || i%64 < 2 && n < 2000 || i%977 == 0 {
			l = append(l, i)
		}
	}
	return l
}

// ends are numbers that a piece of n things may begin or end with, many of them beyond these, or from the end.
func ends(n int) []int {
	l := []int{math.MinInt, math.MinInt + 1, -1 << 32, math.MaxInt, math.MaxInt - 1, 1 << 32, n/2 + 1<<32}
	if n <= 20 {
		for i := -n - 1; i <= n+1; i++ {
			l = append(l, i)
		}
		return l
	}
	return append(l, 0, 1, 8, 15, 16, 17, n/3, n/2, n-17, n-8, n-1, n, n+1, -1, -15, -16, -n/2, -n, 1-n, -1-n)
}

// pair is a place, and what it has.
type pair struct {
	i, x int
}

// pairs is what All gives, up to (with) the n-th one.
func pairs(r Rope[int], n int) []pair {
	var l []pair
	for i, x := range r.All() {
		l = append(l, pair{i, x})
		if len(l) == n {
			break
		}
	}
	return l
}

// pairsOf is what All must give of l.
func pairsOf(l []int) []pair {
	var all []pair
	for i, x := range l {
		all = append(all, pair{i, x})
	}
	return all
}

// check asks r for all that it has.
func check(t *testing.T, name string, r Rope[int], want []int) {
	t.Helper()
	if n := r.Len(); n != len(want) {
		t.Fatalf("%s: Len %d; want %d", name, n, len(want))
	}
	for i, y := range want {
		if x, ok := r.Get(i); x != y || !ok {
			t.Fatalf("%s: Get(%d) of %d: %d, %v; want %d", name, i, len(want), x, ok, y)
		}
	}
	for _, i := range append(noPlaces(len(want)), len(want)) {
		if x, ok := r.Get(i); x != 0 || ok {
			t.Errorf("%s: Get(%d) of %d: %d, %v", name, i, len(want), x, ok)
		}
	}
	if l := r.List(); !slices.Equal(l, want) {
		t.Errorf("%s: List: %v; want %v", name, l, want)
	}
	if l := pairs(r, -1); !slices.Equal(l, pairsOf(want)) {
		t.Errorf("%s: All: %v; want %v", name, l, want)
	}
	checkFlat(t, name, r)
	checkTree(t, name, r)
}

// checkFlat looks at how the depth and the number of things stand to each other (P8.4).
func checkFlat[T any](t *testing.T, name string, r Rope[T]) {
	t.Helper()
	n, depth := r.Len(), r.Depth()
	fewest, most := min(depth, 1), 1
	for k := range depth {
		most *= 16
		if k > 0 {
			fewest *= 8
		}
	}
	if depth > 1 {
		fewest *= 2
	}
	if depth < 0 || depth == 0 && n > 0 || n < fewest || n > most {
		t.Errorf("%s: %d things in a depth of %d, which may have %d to %d", name, n, depth, fewest, most)
	}
}

// checkTree looks at how the things lie in the nodes.
func checkTree(t *testing.T, name string, r Rope[int]) {
	t.Helper()
	root := r.root
	if root.height == 0 {
		if root.n != 0 || root.kids != nil || root.things != nil {
			t.Errorf("%s: a tree without nodes has %d", name, root.n)
		}
		return
	}
	if len(root.kids) == 1 || root.n == 0 {
		t.Errorf("%s: a root with %d kids, of %d", name, len(root.kids), root.n)
	}
	checkNode(t, name, root, r.Depth(), true)
}

// checkNode looks at a node of that depth, the root or not.
func checkNode(t *testing.T, name string, n node[int], depth int, root bool) {
	t.Helper()
	sum := len(n.things)
	for _, kid := range n.kids {
		checkNode(t, name, kid, depth-1, false)
		sum += kid.n
	}
	if n.n != sum || n.height != depth {
		t.Errorf("%s: a node tells %d of %d things, and the depth %d of %d", name, n.n, sum, n.height, depth)
	}
	if (depth > 1) != (n.kids != nil) || (depth == 1) != (n.things != nil) {
		t.Errorf("%s: at a depth of %d a node of %d kids and %d things", name, depth, len(n.kids), len(n.things))
	}
	if has := len(n.kids) + len(n.things); has > 16 || has < 8 && !root {
		t.Errorf("%s: a node of %d, at a depth of %d", name, has, depth)
	}
}

// at answers r, if that has no error.
func at(t *testing.T, r Rope[int], e api.Errno) Rope[int] {
	t.Helper()
	if e != api.OK {
		t.Fatalf("error %v", e)
	}
	return r
}

// set is r with x at i, which is one of its places.
func set(t *testing.T, r Rope[int], i, x int) Rope[int] {
	t.Helper()
	r, e := r.Set(i, x)
	return at(t, r, e)
}

// insert is r with x inserted at i, which may be.
func insert(t *testing.T, r Rope[int], i, x int) Rope[int] {
	t.Helper()
	r, e := r.Insert(i, x)
	return at(t, r, e)
}

// remove is r without what is at i, which is one of its places.
func remove(t *testing.T, r Rope[int], i int) Rope[int] {
	t.Helper()
	r, e := r.Remove(i)
	return at(t, r, e)
}

// fromFront is the rope of l, of which each one was inserted at its end.
func fromFront(t *testing.T, l []int) Rope[int] {
	var r Rope[int]
	for i, x := range l {
		r = insert(t, r, i, x)
	}
	return r
}

// fromEnd is the rope of l, of which each one was inserted at its beginning.
func fromEnd(t *testing.T, l []int) Rope[int] {
	var r Rope[int]
	for _, x := range slices.Backward(l) {
		r = insert(t, r, 0, x)
	}
	return r
}

// all is the ropes of l, that came about in several ways; each has another tree, if l has many things.
func all(t *testing.T, l []int) []Rope[int] {
	n := len(l)
	longer := fromFront(t, slices.Concat(numbers(70), l, numbers(90)))
	joined := Of[int]()
	for lo := 0; lo < n; lo += 5 {
		joined = Concat(joined, Of(l[lo:min(lo+5, n)]...))
	}
	pieces := Concat(fromEnd(t, l[:n/3]), Concat(Of(l[n/3:n/2]...), fromFront(t, l[n/2:])))
	less := Of(slices.Concat(l, l)...)
	for range n {
		less = remove(t, less, n)
	}
	return []Rope[int]{Of(l...), fromFront(t, l), fromEnd(t, l), longer.Slice(70, -90), joined, pieces, less}
}

// P8.1, R5, R6: the zero Rope is empty, as is that of a nil list, and of an empty one; all can be asked of it.
func TestNothing(t *testing.T) {
	var zero Rope[int]
	for _, r := range []Rope[int]{zero, Of[int](), Of[int](nil...), Of([]int{}...), Of(make([]int, 0, 5)...), Concat(zero, Of[int]()), Of(1, 2).Slice(1, 1), remove(t, Of(3), 0)} {
		check(t, "nothing", r, nil)
		if r.Depth() != 0 {
			t.Errorf("Depth %d", r.Depth())
		}
		for _, i := range append(noPlaces(0), 0) {
			if put, e := r.Set(i, 5); e != api.ErrRange || put.Len() != 0 {
				t.Errorf("Set(%d): %d, %v", i, put.Len(), e)
			}
			if less, e := r.Remove(i); e != api.ErrRange || less.Len() != 0 {
				t.Errorf("Remove(%d): %d, %v", i, less.Len(), e)
			}
			if more, e := r.Insert(i, 5); i != 0 && (e != api.ErrRange || more.Len() != 0) {
				t.Errorf("Insert(%d): %d, %v", i, more.Len(), e)
			}
			for _, hi := range ends(0) {
				check(t, "a piece of nothing", r.Slice(i, hi), nil)
			}
		}
		check(t, "inserted", insert(t, r, 0, 7), []int{7})
		check(t, "joined", Concat(r, zero), nil)
		check(t, "joined, to something", Concat(r, Of(numbers(40)...)), numbers(40))
		check(t, "joined, behind something", Concat(Of(numbers(40)...), r), numbers(40))
		for range r.All() {
			t.Error("All gives something")
		}
	}
	if s, ok := (Rope[string]{}).Get(0); s != "" || ok {
		t.Errorf("Get: %q, %v", s, ok)
	}
	if l, ok := (Rope[[]byte]{}).Get(-1); l != nil || ok {
		t.Errorf("Get: %v, %v", l, ok)
	}
}

// The chapter's examples, and what lies about them.
func TestExamples(t *testing.T) {
	for _, y := range []struct{ n, depth int }{{0, 0}, {1, 1}, {2, 1}, {15, 1}, {16, 1}, {17, 2}, {18, 2}, {127, 2}, {257, 3}, {1023, 3}} {
		if d := Of(numbers(y.n)...).Depth(); d != y.depth {
			t.Errorf("of %d things the depth is %d; want %d", y.n, d, y.depth)
		}
	}
	five := Of(0, 1, 2, 3, 4)
	check(t, "a slice", five.Slice(-2, 9), []int{3, 4})
	check(t, "the five", five, []int{0, 1, 2, 3, 4})
}

// P8.1, P8.4.
func TestAsked(t *testing.T) {
	for n := range 600 {
		check(t, "a rope", Of(numbers(n)...), numbers(n))
	}
	for _, n := range append(sizes(), highSizes()...) {
		check(t, "a rope", Of(numbers(n)...), numbers(n))
	}
}

// P8.1, P8.4: five nodes from the root to a leaf, or six.
func TestFarDown(t *testing.T) {
	l := numbers(1<<17 + 5)
	r := Of(l...)
	check(t, "a long rope", r, l)
	r = Concat(r, Concat(Of(1, 2, 3), r))
	l = slices.Concat(l, []int{1, 2, 3}, l)
	check(t, "twice as long", r, l)
	check(t, "a piece of it", r.Slice(777, -777), l[777:len(l)-777])
	for _, i := range []int{0, 15, 16, 4095, 4096, 1<<17 + 4, 1<<17 + 6, len(l) - 1} {
		check(t, "set", set(t, r, i, -5), changed(l, i, -5))
		check(t, "inserted", insert(t, r, i, -5), inserted(l, i, -5))
		check(t, "removed", remove(t, r, i), removed(l, i))
	}
	check(t, "itself", r, l)
}

// P8.1: whoever goes through All may stop, and go through it again, or through two at once.
func TestAllMayBeLeft(t *testing.T) {
	for _, n := range []int{1, 2, 16, 17, 33, 100, 257, 300} {
		for _, r := range []Rope[int]{Of(numbers(n)...), fromFront(t, numbers(n))} {
			want := pairsOf(numbers(n))
			for k := range n {
				if l := pairs(r, k+1); !slices.Equal(l, want[:k+1]) {
					t.Errorf("%d of %d: %v; want %v", k+1, n, l, want[:k+1])
				}
			}
		}
	}
	want := pairsOf(numbers(70))
	through := Of(numbers(70)...).All()
	outer := 0
	for i := range through {
		var inner []pair
		for k, x := range through {
			inner = append(inner, pair{k, x})
		}
		if i != outer || !slices.Equal(inner, want) {
			t.Errorf("All within itself at %d: %v; want %v", i, inner, want)
		}
		outer++
	}
	if outer != 70 {
		t.Errorf("All of 70 stopped after %d", outer)
	}
}

// P8.1, P8.3: All has what the rope had when it was asked, though others are made of it on the way.
func TestAllWhileOthersAreMade(t *testing.T) {
	r := Of(numbers(100)...)
	var l []pair
	for i, x := range r.All() {
		l = append(l, pair{i, x})
		r = set(t, r, 50, -1)
		r = insert(t, r, 0, 5)
		r = remove(t, r, r.Len()-1)
		r = Concat(r.Slice(0, 60), Of(numbers(60)...)).Slice(0, 100)
	}
	if !slices.Equal(l, pairsOf(numbers(100))) {
		t.Errorf("All: %v; want %v", l, numbers(100))
	}
}

// P8.1, R3: a list is memory of its own; whoever gets it may write into it, and behind it.
func TestList(t *testing.T) {
	for _, n := range []int{1, 8, 15, 16, 17, 32, 100, 300} {
		r := Of(numbers(n)...)
		a, b := r.List(), r.List()
		for i := range a {
			a[i] = -5
		}
		if !slices.Equal(b, numbers(n)) {
			t.Errorf("two lists of %d share", n)
		}
		a = append(a[:n/2], 9, 9, 9)
		check(t, "the rope", r, numbers(n))
		check(t, "inserted", insert(t, r, n, 4), append(numbers(n), 4))
		if len(a) != n/2+3 {
			t.Errorf("a list of %d", len(a))
		}
	}
}

// P8.1, P8.4: ropes of any two lengths, however they came about.
func TestConcat(t *testing.T) {
	for _, n := range sizes() {
		for _, k := range sizes() {
			l, m := numbers(n), slices.Concat(numbers(k + 3)[3:])
			want := slices.Concat(l, m)
			a, b := Of(l...), Of(m...)
			check(t, "joined", Concat(a, b), want)
			if n+k <= 600 {
				check(t, "joined of thin ones", Concat(fromFront(t, l), fromEnd(t, m)), want)
				check(t, "joined of a thin one", Concat(fromEnd(t, l), b), want)
			}
			check(t, "the first one", a, l)
			check(t, "the second one", b, m)
		}
	}
	for _, n := range highSizes() {
		l := numbers(n)
		r := Of(l...)
		for _, k := range []int{1, 2, 8, 9, 16, 17, 40, 128, 256, 300} {
			check(t, "a short one behind", Concat(r, Of(l[:k]...)), slices.Concat(l, l[:k]))
			check(t, "a short one ahead", Concat(Of(l[:k]...), r), slices.Concat(l[:k], l))
		}
		check(t, "joined to itself", Concat(r, r), slices.Concat(l, l))
	}
}

// P8.2, R2: at each place, and at none.
func TestSet(t *testing.T) {
	for _, n := range sizes() {
		l := numbers(n)
		for _, r := range all(t, l) {
			for _, i := range somePlaces(n) {
				put := set(t, r, i, -1)
				check(t, "set", put, changed(l, i, -1))
				check(t, "set twice", set(t, put, i, 0), changed(l, i, 0))
			}
			for _, i := range append(noPlaces(n), n) {
				put, e := r.Set(i, 5)
				if e != api.ErrRange {
					t.Errorf("Set(%d) of %d: %v", i, n, e)
				}
				check(t, "set at none", put, nil)
			}
			check(t, "the rope itself", r, l)
		}
	}
}

// P8.2, R2: at each place, behind the last one, and at none.
func TestInsert(t *testing.T) {
	for _, n := range sizes() {
		l := numbers(n)
		for _, r := range all(t, l) {
			for _, i := range append(somePlaces(n), n) {
				more := insert(t, r, i, -1)
				check(t, "inserted", more, inserted(l, i, -1))
				check(t, "inserted twice", insert(t, more, i, -2), inserted(inserted(l, i, -1), i, -2))
			}
			for _, i := range noPlaces(n) {
				more, e := r.Insert(i, 5)
				if e != api.ErrRange {
					t.Errorf("Insert(%d) of %d: %v", i, n, e)
				}
				check(t, "inserted at none", more, nil)
			}
			check(t, "the rope itself", r, l)
		}
	}
}

// P8.2, P8.4: one by one, at the end, at the beginning, in the middle, anywhere; all are asked on the way.
func TestGrow(t *testing.T) {
	draw := drawer()
	for name, place := range map[string]func(n int) int{
		"at the end":       func(n int) int { return n },
		"at the beginning": func(int) int { return 0 },
		"in the middle":    func(n int) int { return n / 2 },
		"ahead of the end": func(n int) int { return max(n-1, 0) },
		"anywhere":         func(n int) int { return draw(n + 1) },
	} {
		var r Rope[int]
		var l []int
		for n := range 1300 {
			i := place(n)
			r, l = insert(t, r, i, n), inserted(l, i, n)
			if n < 300 || n%41 == 0 || n > 1290 {
				check(t, "grown "+name, r, l)
			}
		}
	}
}

// P8.2, R2: at each place, and at none.
func TestRemove(t *testing.T) {
	for _, n := range sizes() {
		l := numbers(n)
		for _, r := range all(t, l) {
			for _, i := range somePlaces(n) {
				check(t, "removed", remove(t, r, i), removed(l, i))
			}
			for _, i := range append(noPlaces(n), n) {
				less, e := r.Remove(i)
				if e != api.ErrRange {
					t.Errorf("Remove(%d) of %d: %v", i, n, e)
				}
				check(t, "removed at none", less, nil)
			}
			check(t, "the rope itself", r, l)
		}
	}
}

// P8.2, P8.4: one by one, down to nothing, of ropes full and thin.
func TestShrink(t *testing.T) {
	draw := drawer()
	l := numbers(1300)
	for k, r := range []Rope[int]{Of(l...), fromFront(t, l), fromEnd(t, l)} {
		for name, place := range map[string]func(n int) int{
			"at the end":       func(n int) int { return n - 1 },
			"at the beginning": func(int) int { return 0 },
			"in the middle":    func(n int) int { return n / 2 },
			"anywhere":         func(n int) int { return draw(n) },
		} {
			left, want := r, slices.Clone(l)
			for n := len(l); n > 0; n-- {
				i := place(n)
				left, want = remove(t, left, i), removed(want, i)
				if n < 300 || n%41 == 0 {
					check(t, "the rope "+strconv.Itoa(k)+" shrunk "+name, left, want)
				}
			}
		}
		check(t, "the rope itself", r, l)
	}
}

// P8.2: from anywhere to anywhere, from the end, too, and beyond it.
func TestSlice(t *testing.T) {
	for _, n := range sizes() {
		l := numbers(n)
		for _, r := range all(t, l)[:min(7, 1+200/(n+1))] {
			for _, lo := range ends(n) {
				for _, hi := range ends(n) {
					check(t, "a piece", r.Slice(lo, hi), cut(l, lo, hi))
				}
			}
			check(t, "the rope itself", r, l)
		}
	}
	for _, n := range []int{4097, 20000} {
		l := numbers(n)
		for _, r := range []Rope[int]{Of(l...), fromFront(t, l)} {
			for _, lo := range []int{0, 1, 16, 17, 255, 256, 1000, -3000, -1} {
				for _, hi := range []int{0, 1, 300, 4096, -2001, -256, -16, -1, math.MaxInt} {
					check(t, "a piece of many", r.Slice(lo, hi), cut(l, lo, hi))
				}
			}
		}
	}
}

// P8.2: each piece of some full ropes and thin ones.
func TestAllSlices(t *testing.T) {
	for _, n := range []int{17, 40, 70, 129} {
		l := numbers(n)
		for _, r := range []Rope[int]{Of(l...), fromFront(t, l), fromEnd(t, l)} {
			for lo := range n + 1 {
				for hi := lo; hi <= n; hi++ {
					check(t, "a piece", r.Slice(lo, hi), l[lo:hi])
				}
			}
		}
	}
}

// R3: the lists that are handed in are not changed, nor kept, whatever their capacity.
func TestListsAreLeft(t *testing.T) {
	for _, n := range []int{1, 5, 8, 15, 16, 17, 32, 33, 300} {
		room := numbers(n + 40)
		r := Of(room[:n]...)
		put := set(t, set(t, r, n-1, 5), 0, 6)
		more := insert(t, insert(t, r, n, 7), 0, 8)
		less := remove(t, r, n/2)
		both := Concat(r, r)
		if !slices.Equal(room, numbers(n+40)) {
			t.Errorf("a list of %d is changed", n)
		}
		for i := range room {
			room[i] = -9
		}
		l := numbers(n)
		check(t, "Of", r, l)
		check(t, "set", put, changed(changed(l, n-1, 5), 0, 6))
		check(t, "inserted", more, inserted(inserted(l, n, 7), 0, 8))
		check(t, "removed", less, removed(l, n/2))
		check(t, "joined", both, slices.Concat(l, l))
	}
}

// made is a rope, and what it must have.
type made struct {
	r Rope[int]
	l []int
}

// another is one made of m, and perhaps of other, by what draw says.
func another(t *testing.T, m, other made, draw func(int) int) made {
	n, x := len(m.l), draw(1000)
	what := draw(6)
	if n == 0 && what < 2 {
		what = 2
	}
	switch what {
	case 0:
		i := draw(n)
		return made{set(t, m.r, i, x), changed(m.l, i, x)}
	case 1:
		i := draw(n)
		return made{remove(t, m.r, i), removed(m.l, i)}
	case 2:
		lo := draw(n + 1)
		hi := lo + draw(n-lo+1)
		return made{m.r.Slice(lo, hi), m.l[lo:hi]}
	case 3, 4:
		if n+len(other.l) < 5000 {
			return made{Concat(m.r, other.r), slices.Concat(m.l, other.l)}
		}
	}
	i := draw(n + 1)
	return made{insert(t, m.r, i, x), inserted(m.l, i, x)}
}

// P8.3, P8.4: many ropes, each made of any ones ahead of it, are in the end what they were when they were made.
func TestLasting(t *testing.T) {
	ropes := []made{{}, {Of(numbers(300)...), numbers(300)}}
	draw := drawer()
	for n := range 3000 {
		of, other := ropes[draw(len(ropes))], ropes[draw(len(ropes))]
		if n%3 > 0 {
			of = ropes[len(ropes)-1-draw(min(len(ropes), 4))]
		}
		ropes = append(ropes, another(t, of, other, draw))
	}
	longest := 0
	for _, m := range ropes {
		check(t, "one of many", m.r, m.l)
		longest = max(longest, len(m.l))
	}
	if longest < 4100 {
		t.Errorf("no rope got longer than %d", longest)
	}
}

// P8.3: ropes made of one leave each other alone, wherever they are set, cut and joined.
func TestMadeOfOne(t *testing.T) {
	for _, n := range []int{1, 5, 8, 15, 16, 17, 32, 33, 128, 256, 257, 300} {
		l := numbers(n)
		for _, r := range all(t, l) {
			h := n / 2
			a, b := insert(t, r, n, 1), insert(t, r, n, 2)
			c, d := insert(t, r, h, 3), insert(t, r, h, 4)
			e, f := set(t, r, h, 5), set(t, r, n-1, 6)
			g, k := remove(t, r, h), remove(t, r, n-1)
			front, back := r.Slice(0, h), r.Slice(h, n)
			check(t, "inserted", a, inserted(l, n, 1))
			check(t, "inserted, too", b, inserted(l, n, 2))
			check(t, "inserted within", c, inserted(l, h, 3))
			check(t, "inserted within, too", d, inserted(l, h, 4))
			check(t, "set", e, changed(l, h, 5))
			check(t, "set, too", f, changed(l, n-1, 6))
			check(t, "removed", g, removed(l, h))
			check(t, "removed, too", k, removed(l, n-1))
			check(t, "grown at the end", insert(t, front, h, 7), slices.Concat(l[:h], []int{7}))
			check(t, "grown at the beginning", insert(t, back, 0, 8), slices.Concat([]int{8}, l[h:]))
			check(t, "the other way round", Concat(back, front), slices.Concat(l[h:], l[:h]))
			check(t, "the front", front, l[:h])
			check(t, "the back", back, l[h:])
			check(t, "the rope itself", r, l)
		}
	}
}

// P8.5: cut anywhere and joined, and inserted and removed again.
func TestBack(t *testing.T) {
	for _, n := range append(sizes(), 4097) {
		l := numbers(n)
		for _, r := range all(t, l) {
			for _, i := range append(somePlaces(n), n) {
				check(t, "cut, and joined", Concat(r.Slice(0, i), r.Slice(i, n)), l)
				check(t, "cut from the end, and joined", Concat(r.Slice(-n, i), r.Slice(i, math.MaxInt)), l)
				check(t, "inserted, and removed", remove(t, insert(t, r, i, -7), i), l)
				if i < n {
					check(t, "removed, and inserted", insert(t, remove(t, r, i), i, l[i]), l)
				}
			}
			if n > 2000 {
				break
			}
		}
	}
}

// P8.5: many are inserted, and removed again, the last one first.
func TestManyBack(t *testing.T) {
	draw := drawer()
	for _, n := range []int{0, 1, 16, 17, 256, 300} {
		l := numbers(n)
		r := Of(l...)
		var places []int
		for k := range 500 {
			i := draw(n + k + 1)
			r = insert(t, r, i, -k)
			places = append(places, i)
		}
		for k, i := range slices.Backward(places) {
			if x, ok := r.Get(i); x != -k || !ok {
				t.Fatalf("Get(%d): %d, %v; want %d", i, x, ok, -k)
			}
			r = remove(t, r, i)
		}
		check(t, "back", r, l)
	}
}

// P8.5: three are joined, the first two first or the last two.
func TestThree(t *testing.T) {
	lengths := []int{0, 1, 7, 8, 9, 16, 17, 33, 128, 257, 700}
	for _, n := range lengths {
		for _, k := range lengths {
			for _, m := range lengths {
				l := numbers(n + k + m)
				a, b, c := Of(l[:n]...), fromFront(t, l[n:n+k]), Of(l[n+k:]...)
				check(t, "the first two first", Concat(Concat(a, b), c), l)
				check(t, "the last two first", Concat(a, Concat(b, c)), l)
			}
		}
	}
}

// P8.4, bound: a rope that is joined to itself again and again takes few steps, and is flat.
func TestDoubled(t *testing.T) {
	r := Of(0, 1, 2, 3, 4)
	for range 28 {
		r = Concat(r, r)
		checkFlat(t, "doubled", r)
	}
	n := 5 << 28
	if r.Len() != n {
		t.Fatalf("Len %d; want %d", r.Len(), n)
	}
	for _, i := range []int{0, 1, 4, 5, 1000003, n/2 - 1, n / 2, n/2 + 3, n - 1} {
		if x, ok := r.Get(i); x != i%5 || !ok {
			t.Errorf("Get(%d): %d, %v", i, x, ok)
		}
		lo := max(i-20, 0)
		var l []int
		for k := lo; k < min(i+20, n); k++ {
			l = append(l, k%5)
		}
		for name, made := range map[string]Rope[int]{"set": set(t, r, i, -1), "inserted": insert(t, r, i, -1), "removed": remove(t, r, i)} {
			checkFlat(t, name, made)
		}
		check(t, "a piece", r.Slice(lo, i+20), l)
		check(t, "a piece with one set", set(t, r, i, -1).Slice(lo, i+20), changed(l, i-lo, -1))
		check(t, "a piece with one more", insert(t, r, i, -1).Slice(lo, min(i+20, n)+1), inserted(l, i-lo, -1))
		check(t, "a piece with one less", remove(t, r, i).Slice(lo, min(i+20, n)-1), removed(l, i-lo))
	}
	if x, ok := r.Get(n); x != 0 || ok {
		t.Errorf("Get(%d): %d, %v", n, x, ok)
	}
	for i := range r.All() {
		if i == 99 {
			break
		}
	}
}

// P1, R4: the same is answered once more, whatever was asked between.
func TestTheSameOnceMore(t *testing.T) {
	type answers struct {
		n, depth, got    int
		ok               bool
		put, more, less  api.Errno
		piece, pieceDeep int
	}
	ask := func(n, i int) answers {
		r := Concat(Of(numbers(n)...), Of(i)).Slice(i%3, n+i%2)
		a := answers{n: r.Len(), depth: r.Depth()}
		a.got, a.ok = r.Get(i)
		_, a.put = r.Set(i, 5)
		_, a.more = r.Insert(i, 5)
		_, a.less = r.Remove(i)
		a.piece, a.pieceDeep = r.Slice(i, -i).Len(), r.Slice(i, -i).Depth()
		return a
	}
	places := []int{-1, 0, 1, 8, 15, 16, 100, 255, 256, 5000, math.MaxInt, math.MinInt}
	var l []answers
	for _, n := range sizes() {
		for _, i := range places {
			l = append(l, ask(n, i))
		}
	}
	for k, n := range slices.Backward(sizes()) {
		for m, i := range slices.Backward(places) {
			if a, was := ask(n, i), l[k*len(places)+m]; a != was {
				t.Errorf("of %d and %d: %v, then %v", n, i, was, a)
			}
		}
	}
}

// branch is what a rope may be part of, and have, at once.
type branch struct {
	Rope[branch]
	name string
}

// A rope is of any type: of texts, lists, ropes, functions, nothing at all, and of what has ropes itself.
func TestOfAnyType(t *testing.T) {
	texts := Of("a", "", "c")
	if s, ok := texts.Get(1); s != "" || !ok || texts.Len() != 3 {
		t.Errorf("an empty text: %q, %v", s, ok)
	}
	lists, e := Of([]int{1}, nil).Insert(1, []int{})
	if l, ok := lists.Get(2); l != nil || !ok || e != api.OK {
		t.Errorf("no list: %v, %v, %v", l, ok, e)
	}
	ropes := Of(texts, Rope[string]{}, Concat(texts, texts))
	if r, ok := ropes.Get(2); !ok || r.Len() != 6 {
		t.Errorf("a rope in a rope: %d, %v", r.Len(), ok)
	}
	functions := Of(func() string { return "f" }, nil)
	if f, ok := functions.Get(0); !ok || f() != "f" {
		t.Error("no function")
	}
	marks, e := Of(make([]struct{}, 1057)...).Remove(1000)
	if marks.Len() != 1056 || len(marks.Slice(3, -3).List()) != 1050 || e != api.OK {
		t.Errorf("marks: %d, %v", marks.Len(), e)
	}
	checkFlat(t, "marks", marks)
	anything := Of[any](nil, 5, "x")
	if x, ok := anything.Slice(0, 1).Get(0); x != nil || !ok {
		t.Errorf("anything: %v, %v", x, ok)
	}
	root := branch{Of(branch{name: "leaf"}, branch{Of(branch{name: "far"}), "inner"}), "root"}
	inner, _ := root.Get(1)
	if far, ok := inner.Get(0); !ok || far.name != "far" || far.Len() != 0 || root.Len() != 2 {
		t.Errorf("a branch in a branch: %q, %v", far.name, ok)
	}
}

// Ways: ropes are generic; things are a list of any length; List or another goes through All; one generic function lays lists of kids and of things together; nothing is written into what a node has.
func TestWays(t *testing.T) {
	file, err := parser.ParseFile(token.NewFileSet(), "rope.go", nil, 0)
	if err != nil {
		t.Fatal(err)
	}
	generic, variadic, ranged := false, false, false
	lists, users := map[string]bool{}, map[string]int{}
	ast.Inspect(file, func(n ast.Node) bool {
		switch x := n.(type) {
		case *ast.TypeSpec:
			generic = generic || x.Name.Name == "Rope" && x.TypeParams != nil
		case *ast.FuncDecl:
			variadic = variadic || x.Name.Name == "Of" && isVariadic(x)
			lists[x.Name.Name] = x.Recv == nil && x.Type.TypeParams != nil
		case *ast.CallExpr:
			users[called(x)]++
		case *ast.RangeStmt:
			ranged = ranged || called(x.X) == "All"
		case *ast.AssignStmt:
			for _, e := range x.Lhs {
				if i, ok := e.(*ast.IndexExpr); ok && isPart(i.X) {
					t.Error("a node's list is written to")
				}
			}
		}
		return true
	})
	if !generic || !variadic {
		t.Error("Rope is not generic, or Of not variadic")
	}
	if !ranged {
		t.Error("nothing goes through All")
	}
	if !lists["spread"] || users["spread"] < 2 {
		t.Error("no generic function is used for kids and for things")
	}
}

// isVariadic tells whether f is handed a list of any length.
func isVariadic(f *ast.FuncDecl) bool {
	for _, p := range f.Type.Params.List {
		if _, ok := p.Type.(*ast.Ellipsis); ok {
			return true
		}
	}
	return false
}

// called is the name of what e calls.
func called(e ast.Expr) string {
	c, ok := e.(*ast.CallExpr)
	if !ok {
		return ""
	}
	switch f := c.Fun.(type) {
	case *ast.Ident:
		return f.Name
	case *ast.SelectorExpr:
		return f.Sel.Name
	}
	return ""
}

// isPart tells whether e is a list of a node.
func isPart(e ast.Expr) bool {
	s, ok := e.(*ast.SelectorExpr)
	return ok && (s.Sel.Name == "kids" || s.Sel.Name == "things")
}
