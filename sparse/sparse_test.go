package sparse

import (
	"go/ast"
	"go/parser"
	"go/token"
	"math"
	"slices"
	"strconv"
	"testing"

	"placket/api"
)

// thing is what a row may have at a place; 0 may be there, too.
type thing struct {
	there bool
	x     int
}

// plain is a row as all of its places.
type plain [32]thing

// with is p with x at i, which is a place.
func (p plain) with(i, x int) plain {
	p[i] = thing{true, x}
	return p
}

// without is p with nothing at i, which is a place.
func (p plain) without(i int) plain {
	p[i] = thing{}
	return p
}

// word is the sum of 2^i of each place i that has something.
func (p plain) word() uint32 {
	sum, power := uint32(0), uint32(1)
	for _, y := range p {
		if y.there {
			sum += power
		}
		power *= 2
	}
	return sum
}

// list is what is there, by rising places.
func (p plain) list() []int {
	var l []int
	for _, y := range p {
		if y.there {
			l = append(l, y.x)
		}
	}
	return l
}

// pair is a place, and what it has.
type pair struct {
	i, x int
}

func (p plain) pairs() []pair {
	var l []pair
	for i, y := range p {
		if y.there {
			l = append(l, pair{i, y.x})
		}
	}
	return l
}

// pairs is what All gives, up to (with) the n-th one.
func pairs(r Row[int], n int) []pair {
	var l []pair
	for i, x := range r.All() {
		l = append(l, pair{i, x})
		if len(l) == n {
			break
		}
	}
	return l
}

// noPlaces are none of 0 to 31, though some are after they are wrapped round.
func noPlaces() []int {
	return []int{-1, -2, -31, -32, -33, -64, 32, 33, 35, 63, 64, 255, 256, 1 << 31, 1<<32 - 1, 1 << 32, 1<<32 + 3, -1 << 32, 3 - 1<<32, math.MaxInt, math.MaxInt - 31, math.MinInt, math.MinInt + 3}
}

// words are the edges, all words of one bit and of one bit too few, and a row of others.
func words() []uint32 {
	l := []uint32{0, 3, 5, 9, 1<<16 - 1, 1<<31 - 1, 1<<31 + 1, math.MaxUint32, 0x55555555, 0xaaaaaaaa}
	for i := range 32 {
		l = append(l, 1<<i, math.MaxUint32-1<<i)
	}
	word := uint64(5)
	for range 40 {
		word = next(word)
		l = append(l, uint32(word>>32))
	}
	return l
}

// next is a word that looks like any other one.
func next(word uint64) uint64 {
	return word*6364136223846793005 + 1442695040888963407
}

// plainOf has something at each place that is a bit of word; 0 at some.
func plainOf(word uint32) plain {
	var p plain
	for i := range p {
		if word>>i&1 == 1 {
			p[i] = thing{true, (i*7 + 3) % 8 * 100}
		}
	}
	return p
}

// rowOf is the row of p, set from place to place.
func rowOf(p plain) Row[int] {
	var r Row[int]
	for _, y := range p.pairs() {
		r = r.Set(y.i, y.x)
	}
	return r
}

// check asks r for all that it has.
func check(t *testing.T, name string, r Row[int], p plain) {
	t.Helper()
	want := p.pairs()
	if n := r.Len(); n != len(want) {
		t.Errorf("%s: Len %d; want %d", name, n, len(want))
	}
	if word := r.Bits(); word != p.word() {
		t.Errorf("%s: Bits %#x; want %#x", name, word, p.word())
	}
	for i, y := range p {
		if x, ok := r.Get(i); x != y.x || ok != y.there {
			t.Errorf("%s: Get(%d): %d, %v; want %d, %v", name, i, x, ok, y.x, y.there)
		}
	}
	for _, i := range noPlaces() {
		if x, ok := r.Get(i); x != 0 || ok {
			t.Errorf("%s: Get(%d): %d, %v", name, i, x, ok)
		}
	}
	first := pair{}
	if len(want) > 0 {
		first = want[0]
	}
	if i, x, ok := r.First(); i != first.i || x != first.x || ok != (len(want) > 0) {
		t.Errorf("%s: First: %d, %d, %v; want %v", name, i, x, ok, first)
	}
	if l := pairs(r, -1); !slices.Equal(l, want) {
		t.Errorf("%s: All: %v; want %v", name, l, want)
	}
}

// P6.1, R5: the zero Row has nothing, and all can be asked of it.
func TestZeroRow(t *testing.T) {
	var r Row[int]
	check(t, "the zero row", r, plain{})
	check(t, "cut", r.Cut(0).Cut(31).Cut(-1).Cut(32), plain{})
	check(t, "set", r.Set(31, 0), plain{}.with(31, 0))
	check(t, "mapped", Map(r, func(int, int) int { panic("nothing is there") }), plain{})
	for _, i := range noPlaces() {
		check(t, "set at none", r.Set(i, 5), plain{})
	}
	if i, x, ok := (Row[string]{}).First(); i != 0 || x != "" || ok {
		t.Errorf("First: %d, %q, %v", i, x, ok)
	}
	if x, ok := (Row[[]byte]{}).Get(3); x != nil || ok {
		t.Errorf("Get: %v, %v", x, ok)
	}
}

// The chapter's example.
func TestExample(t *testing.T) {
	r := Row[int]{}.Set(3, 7).Set(0, 9)
	if r.Bits() != 9 || !slices.Equal(pairs(r, -1), []pair{{0, 9}, {3, 7}}) {
		t.Errorf("Bits %d, All %v", r.Bits(), pairs(r, -1))
	}
}

// P6.1.
func TestAsked(t *testing.T) {
	for _, word := range words() {
		check(t, "a row", rowOf(plainOf(word)), plainOf(word))
	}
}

// P6.1: whoever goes through All may stop, and go through it again, or through two at once.
func TestAllMayBeLeft(t *testing.T) {
	for _, word := range words() {
		r, want := rowOf(plainOf(word)), plainOf(word).pairs()
		for n := range len(want) {
			if l := pairs(r, n+1); !slices.Equal(l, want[:n+1]) {
				t.Errorf("%d of %#x: %v; want %v", n+1, word, l, want[:n+1])
			}
		}
		all := r.All()
		outer := 0
		for i := range all {
			var inner []pair
			for k, x := range all {
				inner = append(inner, pair{k, x})
			}
			if i != want[outer].i || !slices.Equal(inner, want) {
				t.Errorf("All of %#x within itself at %d: %v; want %v", word, i, inner, want)
			}
			outer++
		}
		if outer != len(want) {
			t.Errorf("All of %#x stopped after %d", word, outer)
		}
	}
}

// P6.1: All has what the row had when it was asked, though others are made of the row on the way.
func TestAllWhileOthersAreMade(t *testing.T) {
	p := plainOf(0x80a5)
	r := rowOf(p)
	made := r
	var l []pair
	for i, x := range r.All() {
		l = append(l, pair{i, x})
		made = made.Cut(i).Set(i+1, -x).Set(31-i, 8)
		r = r.Set(i, 77).Cut(15)
	}
	if !slices.Equal(l, p.pairs()) {
		t.Errorf("All: %v; want %v", l, p.pairs())
	}
}

// P6.2.
func TestSet(t *testing.T) {
	for _, word := range words() {
		p := plainOf(word)
		r := rowOf(p)
		for i := range 32 {
			for _, x := range []int{0, 5, -1} {
				name := "Set(" + strconv.Itoa(i) + ")"
				check(t, name, r.Set(i, x), p.with(i, x))
				check(t, name+" twice", r.Set(i, 9).Set(i, x), p.with(i, x))
			}
		}
		for _, i := range noPlaces() {
			check(t, "Set("+strconv.Itoa(i)+")", r.Set(i, 5), p)
		}
		check(t, "the row itself", r, p)
	}
}

// P6.2.
func TestCut(t *testing.T) {
	for _, word := range words() {
		p := plainOf(word)
		r := rowOf(p)
		for i := range 32 {
			name := "Cut(" + strconv.Itoa(i) + ")"
			check(t, name, r.Cut(i), p.without(i))
			check(t, name+" twice", r.Cut(i).Cut(i), p.without(i))
		}
		for _, i := range noPlaces() {
			check(t, "Cut("+strconv.Itoa(i)+")", r.Cut(i), p)
		}
		check(t, "the row itself", r, p)
	}
}

// P6.2: f is asked once of each, by rising places.
func TestMap(t *testing.T) {
	for _, word := range words() {
		p := plainOf(word)
		r := rowOf(p)
		var asked []pair
		texts := Map(r, func(i, x int) string {
			asked = append(asked, pair{i, x})
			return strconv.Itoa(i) + " has " + strconv.Itoa(x)
		})
		if !slices.Equal(asked, p.pairs()) {
			t.Errorf("Map of %#x asks %v; want %v", word, asked, p.pairs())
		}
		if texts.Bits() != word || texts.Len() != len(asked) {
			t.Errorf("Map of %#x: Bits %#x, Len %d", word, texts.Bits(), texts.Len())
		}
		for i, y := range p {
			want := ""
			if y.there {
				want = strconv.Itoa(i) + " has " + strconv.Itoa(y.x)
			}
			if s, ok := texts.Get(i); s != want || ok != y.there {
				t.Errorf("Map of %#x: Get(%d): %q, %v; want %q", word, i, s, ok, want)
			}
		}
		back := Map(texts, func(i int, s string) int {
			x, err := strconv.Atoi(s[len(strconv.Itoa(i)+" has "):])
			if err != nil {
				t.Error(err)
			}
			return x
		})
		check(t, "mapped and back", back, p)
		check(t, "the row itself", r, p)
		noughts := Map(r, func(int, int) int { return 0 })
		for i, y := range p {
			if x, ok := noughts.Get(i); x != 0 || ok != y.there {
				t.Errorf("Map of %#x to 0: Get(%d): %d, %v", word, i, x, ok)
			}
		}
	}
}

// P6.2, P6.3: what is made of what Map made, and of the row while Map asks, changes neither.
func TestMapLasts(t *testing.T) {
	p := plainOf(0xf00f)
	r := rowOf(p)
	less := Map(r, func(i, x int) int {
		x, _ = r.Set(i, x-1).Get(i)
		return x
	})
	less.Set(0, 9).Cut(1).Set(31, 8)
	check(t, "the row itself", r, p)
	for _, y := range p.pairs() {
		p = p.with(y.i, y.x-1)
	}
	check(t, "mapped", less, p)
}

// P6.2, R2: a list that is too short, or too long, is refused.
func TestOf(t *testing.T) {
	for _, word := range words() {
		p := plainOf(word)
		r, e := Of(word, p.list())
		if e != api.OK {
			t.Errorf("Of(%#x, %v): %v", word, p.list(), e)
		}
		check(t, "Of", r, p)
		for n := range 40 {
			l := make([]int, n)
			for k := range l {
				l[k] = k
			}
			want, refused := plain{}, api.ErrArg
			if n == r.Len() {
				refused = api.OK
				for k, y := range p.pairs() {
					want = want.with(y.i, k)
				}
			}
			r, e := Of(word, l)
			if e != refused {
				t.Errorf("Of(%#x, %v): %v; want %v", word, l, e, refused)
			}
			check(t, "Of a list from 0 on", r, want)
		}
	}
}

// R6: a nil list and an empty one are the same.
func TestOfNothing(t *testing.T) {
	for _, l := range [][]int{nil, {}, make([]int, 0, 5)} {
		r, e := Of(0, l)
		if e != api.OK {
			t.Errorf("Of(0, %v): %v", l, e)
		}
		check(t, "Of nothing", r, plain{})
		check(t, "Of nothing, and set", r.Set(4, 2), plain{}.with(4, 2))
		if r, e := Of(1, l); e != api.ErrArg || r.Len() != 0 {
			t.Errorf("Of(1, %v): %d, %v", l, r.Len(), e)
		}
	}
}

// R3: the list is not changed, nor kept, whatever its capacity.
func TestOfLeavesTheList(t *testing.T) {
	p := plain{}.with(1, 10).with(5, 20).with(31, 30)
	room := []int{10, 20, 30, 40, 50}
	l := room[:3]
	r, e := Of(p.word(), l)
	if e != api.OK {
		t.Fatal(e)
	}
	r.Set(1, 11).Set(5, 12).Set(31, 13).Cut(1)
	r.Set(0, 14).Set(9, 15)
	Map(r, func(int, int) int { return 16 })
	if !slices.Equal(room, []int{10, 20, 30, 40, 50}) {
		t.Errorf("the list is %v", room)
	}
	clear(room)
	check(t, "Of", r, p)
	check(t, "set", r.Set(9, 15), p.with(9, 15))
}

// made is a row, and what it must have.
type made struct {
	r Row[int]
	p plain
}

// P6.3: many rows, each made of any one ahead of it, are in the end what they were when they were made.
func TestLasting(t *testing.T) {
	all := []made{{}}
	word := uint64(1)
	draw := func(n int) int {
		word = next(word)
		return int(word >> 33 % uint64(n))
	}
	for n := range 3000 {
		of := all[draw(len(all))]
		if n%3 > 0 { // mostly of a late one, so that rows get full
			of = all[len(all)-1-draw(min(len(all), 3))]
		}
		i := draw(32)
		switch draw(8) {
		case 0:
			all = append(all, made{of.r.Cut(i), of.p.without(i)})
		case 1:
			double := of.p
			for _, y := range of.p.pairs() {
				double = double.with(y.i, 2*y.x+y.i)
			}
			all = append(all, made{Map(of.r, func(i, x int) int { return 2*x + i }), double})
		case 2:
			r, e := Of(of.r.Bits(), of.p.list())
			if e != api.OK {
				t.Fatal(e)
			}
			all = append(all, made{r, of.p})
		default:
			all = append(all, made{of.r.Set(i, n), of.p.with(i, n)})
		}
	}
	full := 0
	for _, m := range all {
		check(t, "one of many", m.r, m.p)
		full = max(full, m.r.Len())
	}
	if full < 20 {
		t.Errorf("no row got more than %d things", full)
	}
}

// P6.3: two rows made of one leave each other alone, wherever they are set, and cut.
func TestMadeOfOne(t *testing.T) {
	for _, word := range []uint32{0, 1, 9, 1 << 31, 0xff, 0x55555555, math.MaxUint32, math.MaxUint32 - 1<<31} {
		p := plainOf(word)
		r := rowOf(p)
		for i := range 32 {
			for k := range 32 {
				a, b, c, d := r.Set(i, 1), r.Set(k, 2), r.Cut(i), r.Cut(k)
				check(t, "the first one that is set", a, p.with(i, 1))
				check(t, "the second one that is set", b, p.with(k, 2))
				check(t, "the first one that is cut", c, p.without(i))
				check(t, "the second one that is cut", d, p.without(k))
				check(t, "one of the first one", a.Set(k, 3), p.with(i, 1).with(k, 3))
				check(t, "cut of the second one", b.Cut(i), p.with(k, 2).without(i))
			}
		}
		check(t, "the row itself", r, p)
	}
}

// orders are all orders of l.
func orders(l []pair) [][]pair {
	if len(l) == 0 {
		return [][]pair{nil}
	}
	var all [][]pair
	for i := range l {
		others := slices.Concat(l[:i], l[i+1:])
		for _, o := range orders(others) {
			all = append(all, append([]pair{l[i]}, o...))
		}
	}
	return all
}

// P6.4: whichever comes first, in a row that has some of the places, and in one that has nothing.
func TestInAnyOrder(t *testing.T) {
	l := []pair{{0, 4}, {1, 0}, {7, 5}, {30, 6}, {31, -7}}
	for _, word := range []uint32{0, 2, 0x80000001, 0x00f0ff00, 0x7fffff7f, math.MaxUint32} {
		start := plainOf(word)
		want := start
		for _, y := range l {
			want = want.with(y.i, y.x)
		}
		for _, order := range orders(l) {
			r, p := rowOf(start), start
			for _, y := range order {
				r, p = r.Set(y.i, y.x), p.with(y.i, y.x)
				check(t, "on the way", r, p)
			}
			check(t, "in the end", r, want)
			for _, y := range l {
				r, p = r.Cut(y.i), p.without(y.i)
				check(t, "on the way back", r, p)
			}
		}
	}
}

// P6.4: what was set and cut again is as if it had not been, also if it is all that there was.
func TestSetAndCut(t *testing.T) {
	for _, word := range words() {
		p := plainOf(word)
		r := rowOf(p)
		for i := range 32 {
			if !p[i].there {
				check(t, "set and cut", r.Set(i, 5).Cut(i), p)
				check(t, "set twice and cut", r.Set(i, 5).Set(i, 6).Cut(i), p)
			} else {
				check(t, "cut and set", r.Cut(i).Set(i, p[i].x), p)
			}
		}
		emptied := r
		for i := range 32 {
			emptied = emptied.Cut(31 - i)
		}
		check(t, "emptied", emptied, plain{})
		check(t, "emptied, and set", emptied.Set(6, 7), plain{}.with(6, 7))
	}
}

// P1, R4: the same is answered once more, whatever was asked between.
func TestTheSameOnceMore(t *testing.T) {
	type answers struct {
		n, i, x, at, first int
		word               uint32
		ok, any            bool
		e                  api.Errno
	}
	places := append(noPlaces(), 0, 1, 5, 30, 31)
	ask := func(word uint32, i int) answers {
		r := rowOf(plainOf(word)).Set(i, 3).Cut(i/2).Set(-i, 4)
		a := answers{n: r.Len(), i: i, word: r.Bits()}
		a.x, a.ok = r.Get(i)
		a.at, a.first, a.any = r.First()
		_, a.e = Of(word, make([]int, i&31))
		return a
	}
	var l []answers
	for _, word := range words() {
		for _, i := range places {
			l = append(l, ask(word, i))
		}
	}
	for at, word := range slices.Backward(words()) {
		for k, i := range slices.Backward(places) {
			if a, was := ask(word, i), l[at*len(places)+k]; a != was {
				t.Errorf("of %#x and %d: %v, then %v", word, i, was, a)
			}
		}
	}
}

// node is what a row may be part of, and have, at once.
type node struct {
	Row[node]
	name string
}

// A row is of any type: of texts, lists, rows, functions, nothing at all, and of what has rows itself.
func TestOfAnyType(t *testing.T) {
	texts := Row[string]{}.Set(2, "b").Set(1, "").Set(2, "c")
	if s, ok := texts.Get(1); s != "" || !ok || texts.Len() != 2 {
		t.Errorf("an empty text: %q, %v", s, ok)
	}
	if i, s, ok := texts.Cut(1).First(); i != 2 || s != "c" || !ok {
		t.Errorf("the other text: %d, %q, %v", i, s, ok)
	}
	lists := Row[[]int]{}.Set(0, nil).Set(31, []int{1})
	if l, ok := lists.Get(0); l != nil || !ok {
		t.Errorf("no list: %v, %v", l, ok)
	}
	rows := Row[Row[string]]{}.Set(4, texts).Set(3, Row[string]{})
	if r, ok := rows.Get(4); !ok || r.Bits() != 6 {
		t.Errorf("a row in a row: %#x, %v", r.Bits(), ok)
	}
	functions := Map(texts, func(i int, s string) func() string {
		return func() string { return s + strconv.Itoa(i) }
	})
	if f, ok := functions.Get(2); !ok || f() != "c2" {
		t.Error("no function")
	}
	marks := Row[struct{}]{}.Set(9, struct{}{}).Set(8, struct{}{}).Cut(9)
	if _, ok := marks.Get(8); !ok || marks.Bits() != 1<<8 || marks.Len() != 1 {
		t.Errorf("marks: %#x", marks.Bits())
	}
	anything, e := Of(3, []any{nil, 5})
	if x, ok := anything.Get(0); x != nil || !ok || e != api.OK {
		t.Errorf("anything: %v, %v, %v", x, ok, e)
	}
	leaf := node{name: "leaf"}
	root := node{Row[node]{}.Set(7, node{Row[node]{}.Set(5, leaf), "inner"}), "root"}
	inner, _ := root.Get(7)
	if n, ok := inner.Get(5); !ok || n.name != "leaf" || n.Len() != 0 {
		t.Errorf("a node in a node: %q, %v", n.name, ok)
	}
}

// The chapter's first words: just those that are there take room.
func TestRoom(t *testing.T) {
	for _, word := range words() {
		p := plainOf(word)
		r := rowOf(p)
		of, e := Of(word, p.list())
		if e != api.OK {
			t.Fatal(e)
		}
		twice := Map(r, func(i, x int) int { return 2 * x })
		for _, r := range []Row[int]{r, of, twice, r.Set(8, 1).Cut(8), r.Set(31, 1), r.Cut(0)} {
			if len(r.list) != r.Len() || cap(r.list) != r.Len() {
				t.Errorf("%d things of %#x take room for %d", r.Len(), r.Bits(), cap(r.list))
			}
		}
	}
}

// Ways: rows are generic, and so is Map; All is gone through by a range over a function; lists are copied, and nothing is written into those that a row has.
func TestWays(t *testing.T) {
	file, err := parser.ParseFile(token.NewFileSet(), "sparse.go", nil, 0)
	if err != nil {
		t.Fatal(err)
	}
	row, mapped, ranged, copied := false, false, false, false
	ast.Inspect(file, func(n ast.Node) bool {
		switch x := n.(type) {
		case *ast.TypeSpec:
			row = row || x.Name.Name == "Row" && x.TypeParams != nil
		case *ast.FuncDecl:
			mapped = mapped || x.Name.Name == "Map" && x.Type.TypeParams != nil
		case *ast.RangeStmt:
			ranged = ranged || calls(x.X, "All")
		case *ast.CallExpr:
			copied = copied || calls(x, "copy")
		case *ast.AssignStmt:
			for _, e := range x.Lhs {
				if i, ok := e.(*ast.IndexExpr); ok && isList(i.X) {
					t.Error("a row's list is written to")
				}
			}
		}
		return true
	})
	if !row || !mapped {
		t.Error("Row or Map is not generic")
	}
	if !ranged {
		t.Error("nothing goes through All")
	}
	if !copied {
		t.Error("no list is copied")
	}
}

// calls tells whether e calls what has that name.
func calls(e ast.Expr, name string) bool {
	c, ok := e.(*ast.CallExpr)
	if !ok {
		return false
	}
	switch f := c.Fun.(type) {
	case *ast.Ident:
		return f.Name == name
	case *ast.SelectorExpr:
		return f.Sel.Name == name
	}
	return false
}

// isList tells whether e is the list of a row.
func isList(e ast.Expr) bool {
	s, ok := e.(*ast.SelectorExpr)
	return ok && s.Sel.Name == "list"
}
