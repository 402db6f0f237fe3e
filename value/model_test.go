package value

// Plain trees, by the chapter's words alone: what values must come to.

import (
	"encoding/binary"
	"slices"
	"sort"
	"strings"
	"testing"

	"placket/api"
)

func boolean(n int64) api.Tree { return api.Tree{Kind: api.KBool, Int: n} }

func number(n int64) api.Tree { return api.Tree{Kind: api.KInt, Int: n} }

func text(s string) api.Tree { return api.Tree{Kind: api.KText, Text: s} }

func vec(items ...api.Tree) api.Tree { return api.Tree{Kind: api.KVec, Items: items} }

func set(items ...api.Tree) api.Tree { return api.Tree{Kind: api.KSet, Items: items} }

// dict is a map of these keys, with a blank between, and what they have.
func dict(keys string, items ...api.Tree) api.Tree {
	return api.Tree{Kind: api.KMap, Keys: strings.Fields(keys), Items: items}
}

func index(i int) api.Step { return api.Step{Kind: api.StIndex, Int: i} }

func key(k string) api.Step { return api.Step{Kind: api.StKey, Text: k} }

func member(t api.Tree) api.Step { return api.Step{Kind: api.StMember, Text: keyOf(t)} }

// drawer draws numbers below n that look like any other ones, the same ones each time.
func drawer() func(n int) int {
	word := uint64(1)
	return func(n int) int {
		word = word*6364136223846793005 + 1442695040888963407
		return int(word >> 33 % uint64(n))
	}
}

// keyOf is the key of the value that t tells, which need not be canonical.
func keyOf(t api.Tree) string {
	var inner []string
	for _, item := range t.Items {
		inner = append(inner, keyOf(item))
	}
	switch t.Kind {
	case api.KBool:
		return "\x02" + string([]byte{byte(t.Int)})
	case api.KInt:
		return "\x03" + string(binary.BigEndian.AppendUint64(nil, uint64(t.Int)+1<<63))
	case api.KText:
		return textKey(t.Text)
	case api.KVec:
		return "\x05" + strings.Join(inner, "") + "\x00"
	case api.KMap:
		// The key of a text begins no other one, so the pairs are in the order of their keys.
		for i, k := range t.Keys {
			inner[i] = textKey(k) + inner[i]
		}
		sort.Strings(inner)
		return "\x06" + strings.Join(inner, "") + "\x00"
	case api.KSet:
		sort.Strings(inner)
		return "\x07" + strings.Join(inner, "") + "\x00"
	}
	return "\x01"
}

func textKey(s string) string {
	return "\x04" + strings.ReplaceAll(s, "\x00", "\x00\xff") + "\x00\x00"
}

// told is the tree of the value with whose key k begins, and what stands behind.
func told(k string) (api.Tree, string) {
	head, rest := k[0], k[1:]
	switch head {
	case 1:
		return api.Tree{}, rest
	case 2:
		return boolean(int64(rest[0])), rest[1:]
	case 3:
		return number(int64(binary.BigEndian.Uint64([]byte(rest[:8])) - 1<<63)), rest[8:]
	case 4:
		var s []byte
		for i := 0; ; i++ {
			if rest[i] != 0 {
				s = append(s, rest[i])
				continue
			}
			if i++; rest[i] == 0 {
				return text(string(s)), rest[i+1:]
			}
			s = append(s, 0)
		}
	}
	t := api.Tree{Kind: int(head) - 1}
	for rest[0] != 0 {
		var x api.Tree
		if t.Kind == api.KMap {
			x, rest = told(rest)
			t.Keys = append(t.Keys, x.Text)
		}
		x, rest = told(rest)
		t.Items = append(t.Items, x)
	}
	return t, rest[1:]
}

// canonical is the canonical tree of what t tells, in memory of its own.
func canonical(t api.Tree) api.Tree {
	c := api.Tree{Kind: t.Kind, Int: t.Int, Text: t.Text}
	switch t.Kind {
	case api.KVec, api.KSet:
		for _, item := range t.Items {
			c.Items = append(c.Items, canonical(item))
		}
	case api.KMap:
		c.Keys = slices.Clone(t.Keys)
		sort.Strings(c.Keys)
		for _, k := range c.Keys {
			c.Items = append(c.Items, canonical(t.Items[slices.Index(t.Keys, k)]))
		}
	}
	if t.Kind == api.KSet {
		keys := make([]string, len(c.Items))
		for i, x := range c.Items {
			keys[i] = keyOf(x)
		}
		sort.Sort(&byKeys{keys, c.Items})
	}
	return c
}

// byKeys lays members in order by their keys.
type byKeys struct {
	keys  []string
	items []api.Tree
}

func (l *byKeys) Len() int { return len(l.keys) }

func (l *byKeys) Less(i, k int) bool { return l.keys[i] < l.keys[k] }

func (l *byKeys) Swap(i, k int) {
	l.keys[i], l.keys[k] = l.keys[k], l.keys[i]
	l.items[i], l.items[k] = l.items[k], l.items[i]
}

// equal tells whether a and b tell the same in the same order.
func equal(a, b api.Tree) bool {
	return a.Kind == b.Kind && a.Int == b.Int && a.Text == b.Text && slices.Equal(a.Keys, b.Keys) && slices.EqualFunc(a.Items, b.Items, equal)
}

func depthOf(t api.Tree) int {
	greatest := 0
	for _, item := range t.Items {
		greatest = max(greatest, depthOf(item))
	}
	return greatest + 1
}

func nodesOf(t api.Tree) int {
	n := 1
	for _, item := range t.Items {
		n += nodesOf(item)
	}
	return n
}

// limited is t, or the error of one that is too deep or has too many nodes.
func limited(t api.Tree) (api.Tree, api.Errno) {
	if depthOf(t) > 64 {
		return api.Tree{}, api.ErrDepth
	}
	if nodesOf(t) > 16384 {
		return api.Tree{}, api.ErrNodes
	}
	return t, api.OK
}

// stepsOf are the steps to the parts of t, which is canonical.
func stepsOf(t api.Tree) []api.Step {
	var l []api.Step
	for i, item := range t.Items {
		switch t.Kind {
		case api.KVec:
			l = append(l, index(i))
		case api.KMap:
			l = append(l, key(t.Keys[i]))
		case api.KSet:
			l = append(l, member(item))
		}
	}
	return l
}

// placeOf is the place among the parts of t, which is canonical, of the one to which s leads.
func placeOf(t api.Tree, s api.Step) (int, api.Errno) {
	switch s.Kind {
	case api.StIndex:
		s.Text = ""
	case api.StKey, api.StMember:
		s.Int = 0
	default:
		return 0, api.ErrArg
	}
	if s.Kind+api.KVec != t.Kind {
		return 0, api.ErrKind
	}
	i := slices.Index(stepsOf(t), s)
	if i < 0 {
		return 0, api.ErrNone
	}
	return i, api.OK
}

// getOf, setOf, insertOf, cutOf, addOf, sliceOf and concatOf are what the calls must tell of canonical trees.
func getOf(t api.Tree, s api.Step) (api.Tree, api.Errno) {
	i, e := placeOf(t, s)
	if e != api.OK {
		return api.Tree{}, e
	}
	return t.Items[i], api.OK
}

func setOf(t api.Tree, s api.Step, x api.Tree) (api.Tree, api.Errno) {
	i, e := placeOf(t, s)
	if e == api.ErrArg || e == api.ErrKind {
		return api.Tree{}, e
	}
	if t.Kind == api.KSet {
		return api.Tree{}, api.ErrSet
	}
	c := api.Tree{Kind: t.Kind, Keys: slices.Clone(t.Keys), Items: slices.Clone(t.Items)}
	switch {
	case e == api.OK:
		c.Items[i] = x
	case t.Kind == api.KVec:
		return api.Tree{}, api.ErrNone
	default:
		c.Keys = append(c.Keys, s.Text)
		c.Items = append(c.Items, x)
	}
	return limited(canonical(c))
}

func insertOf(t api.Tree, i int, x api.Tree) (api.Tree, api.Errno) {
	if t.Kind != api.KVec {
		return api.Tree{}, api.ErrKind
	}
	if i < 0 || i > len(t.Items) {
		return api.Tree{}, api.ErrRange
	}
	return limited(vec(slices.Concat(t.Items[:i], []api.Tree{x}, t.Items[i:])...))
}

func cutOf(t api.Tree, s api.Step) (api.Tree, api.Errno) {
	i, e := placeOf(t, s)
	if e != api.OK {
		return api.Tree{}, e
	}
	c := api.Tree{Kind: t.Kind, Items: slices.Concat(t.Items[:i], t.Items[i+1:])}
	if t.Kind == api.KMap {
		c.Keys = slices.Concat(t.Keys[:i], t.Keys[i+1:])
	}
	return c, api.OK
}

func addOf(t, x api.Tree) (api.Tree, api.Errno) {
	if t.Kind != api.KSet {
		return api.Tree{}, api.ErrKind
	}
	if _, e := placeOf(t, member(x)); e == api.OK {
		return t, api.OK
	}
	return limited(canonical(set(slices.Concat(t.Items, []api.Tree{x})...)))
}

func sliceOf(t api.Tree, lo, hi int) (api.Tree, api.Errno) {
	if t.Kind != api.KVec {
		return api.Tree{}, api.ErrKind
	}
	n := len(t.Items)
	var ends [2]int
	for k, i := range []int{lo, hi} {
		switch {
		case i >= n:
			ends[k] = n
		case i >= 0:
			ends[k] = i
		case i >= -n:
			ends[k] = n + i
		}
	}
	return vec(t.Items[ends[0]:max(ends[0], ends[1])]...), api.OK
}

func concatOf(a, b api.Tree) (api.Tree, api.Errno) {
	if a.Kind != api.KVec || b.Kind != api.KVec {
		return api.Tree{}, api.ErrKind
	}
	return limited(vec(slices.Concat(a.Items, b.Items)...))
}

// wrongOf is what Check must tell of t at that depth; seen is how many nodes have been looked at.
func wrongOf(t api.Tree, depth int, seen *int) api.Errno {
	*seen++
	scalar := t.Kind >= 0 && t.Kind <= 3
	keys := 0
	if t.Kind == api.KMap {
		keys = len(t.Items)
	}
	switch {
	case depth > 64:
		return api.ErrDepth
	case *seen > 16384:
		return api.ErrNodes
	case t.Kind < 0 || t.Kind > 6:
		return api.ErrKind
	case scalar && len(t.Keys)+len(t.Items) > 0:
		return api.ErrArg
	case scalar && (t.Kind == api.KNull || t.Kind == api.KText) && t.Int != 0:
		return api.ErrArg
	case scalar && t.Kind != api.KText && t.Text != "":
		return api.ErrArg
	case t.Kind == api.KBool && (t.Int < 0 || t.Int > 1):
		return api.ErrRange
	case !scalar && (t.Int != 0 || t.Text != "" || len(t.Keys) != keys):
		return api.ErrArg
	case hasTwice(t.Keys):
		return api.ErrTwice
	}
	var members []string
	for _, item := range t.Items {
		if e := wrongOf(item, depth+1, seen); e != api.OK {
			return e
		}
		members = append(members, keyOf(item))
	}
	if t.Kind == api.KSet && hasTwice(members) {
		return api.ErrTwice
	}
	return api.OK
}

func hasTwice(l []string) bool {
	seen := map[string]bool{}
	for _, s := range l {
		if seen[s] {
			return true
		}
		seen[s] = true
	}
	return false
}

// someTexts are texts and keys, some of which begin others.
func someTexts() []string {
	return []string{"", "a", "b", "ab", "a\x00", "\x00", "\x00\x00", "\x00\xff", "\xff", "\x00\x01", "key", "é", "\x05\x01\x00", strings.Repeat("x", 40)}
}

// someScalars are of all kinds.
func someScalars() []api.Tree {
	l := []api.Tree{{}, boolean(0), boolean(1), number(0), number(1), number(-1), number(1 << 40), number(1<<63 - 1), number(-1 << 63)}
	for _, s := range someTexts() {
		l = append(l, text(s))
	}
	return l
}

// drawn is any right tree of at most that depth, mostly not canonical.
func drawn(draw func(int) int, depth int) api.Tree {
	if depth == 1 || draw(5) == 0 {
		l := someScalars()
		return l[draw(len(l))]
	}
	t := api.Tree{Kind: api.KVec + draw(3)}
	taken := map[string]bool{}
	for range draw(6) {
		x := drawn(draw, depth-1)
		switch t.Kind {
		case api.KMap:
			k := someTexts()[draw(len(someTexts()))]
			if taken[k] {
				continue
			}
			taken[k] = true
			t.Keys = append(t.Keys, k)
		case api.KSet:
			if taken[keyOf(x)] {
				continue
			}
			taken[keyOf(x)] = true
		}
		t.Items = append(t.Items, x)
	}
	return t
}

// shuffled is what t tells, with all that has no order of its own in another one, in memory of its own.
func shuffled(t api.Tree, draw func(int) int) api.Tree {
	c := api.Tree{Kind: t.Kind, Int: t.Int, Text: t.Text, Keys: slices.Clone(t.Keys)}
	for _, item := range t.Items {
		c.Items = append(c.Items, shuffled(item, draw))
	}
	if t.Kind == api.KVec {
		return c
	}
	for i := range c.Items {
		k := i + draw(len(c.Items)-i)
		c.Items[i], c.Items[k] = c.Items[k], c.Items[i]
		if k < len(c.Keys) {
			c.Keys[i], c.Keys[k] = c.Keys[k], c.Keys[i]
		}
	}
	return c
}

// someTrees are right ones of all kinds: edges, and n that are drawn.
func someTrees(n int) []api.Tree {
	l := someScalars()
	l = append(l, vec(), dict(""), set(), vec(vec()), set(set()), dict("a", dict("")), vec(api.Tree{}), set(api.Tree{}), dict("a", api.Tree{}),
		vec(api.Tree{}, boolean(1)), vec(number(1), number(1)), set(number(2), number(1)), set(number(10), number(9), number(-1)),
		dict("b a", set(number(2), number(1)), api.Tree{}), dict("b a c", number(1), number(1), vec(number(1))),
		api.Tree{Kind: api.KMap, Keys: []string{"\x00", "", "\x00\x00", "a"}, Items: []api.Tree{vec(), set(), dict(""), text("")}},
		set(vec(), dict(""), set(), api.Tree{}, boolean(0), number(0), text("")),
		set(vec(number(1)), vec(number(1), api.Tree{}), vec(), vec(number(2))),
		set(set(number(2), number(1)), set(number(1)), set(set(), vec())),
		set(dict("a b", number(1), number(2)), dict("a", number(1)), dict("b", number(1))),
		vec(vec(vec(vec())), vec(vec()), vec(), number(5)), chain(64), chain(63), wide(40))
	draw := drawer()
	for range n {
		l = append(l, drawn(draw, 5))
	}
	return l
}

// chain has a depth and as many nodes of n, in which vectors, maps and sets lie in turn.
func chain(n int) api.Tree {
	t := api.Tree{}
	for i := 1; i < n; i++ {
		switch i % 3 {
		case 0:
			t = vec(t)
		case 1:
			t = dict("k", t)
		case 2:
			t = set(t)
		}
	}
	return t
}

// wide is a vector of n nodes.
func wide(n int) api.Tree {
	t := vec()
	for i := range n - 1 {
		t.Items = append(t.Items, number(int64(i%7)))
	}
	return t
}

// wideMap and wideSet are a map and a set of n nodes.
func wideMap(n int) api.Tree {
	t := dict("")
	for i := range n - 1 {
		t.Keys = append(t.Keys, "key "+string(binary.BigEndian.AppendUint32(nil, uint32(i))))
		t.Items = append(t.Items, number(int64(i%7)))
	}
	return t
}

func wideSet(n int) api.Tree {
	t := set()
	for i := range n - 1 {
		t.Items = append(t.Items, number(int64(i*i)))
	}
	return t
}

// confs are those of several seeds and numbers of bits, some of them none of 0 to 64.
func confs() []api.Conf {
	return []api.Conf{{}, {Seed: 5, Bits: 64}, {Seed: 0, Bits: 1}, {Seed: 9, Bits: 7}, {Seed: 1, Bits: -2}, {Seed: 1 << 63, Bits: 99}}
}

// of is the value of t, which is right.
func of(t *testing.T, c api.Conf, x api.Tree) Value {
	t.Helper()
	return good(t)(Of(c, x))
}

// good answers what a call told that can have no error.
func good(t *testing.T) func(Value, api.Errno) Value {
	return func(v Value, e api.Errno) Value {
		t.Helper()
		if e != api.OK {
			t.Fatalf("error %d", e)
		}
		return v
	}
}
