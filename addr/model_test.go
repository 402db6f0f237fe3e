package addr

// Plain trees, and texts as their tokens' letters, by the chapter's words alone: what addr must come to.

import (
	"regexp"
	"slices"

	"placket/api"
	"placket/fault"
	"placket/lex"
	"placket/value"
)

// keyOf is the key of the value that t tells.
func keyOf(t api.Tree) string {
	v, err := value.Of(usual(), t)
	if err != api.OK {
		panic(err)
	}
	return v.Key()
}

func depthOf(t api.Tree) int {
	most := 0
	for _, item := range t.Items {
		most = max(most, depthOf(item))
	}
	return most + 1
}

func nodesOf(t api.Tree) int {
	n := 1
	for _, item := range t.Items {
		n += nodesOf(item)
	}
	return n
}

// cloned is t in memory of its own.
func cloned(t api.Tree) api.Tree {
	t.Keys, t.Items = slices.Clone(t.Keys), slices.Clone(t.Items)
	for i, item := range t.Items {
		t.Items[i] = cloned(item)
	}
	return t
}

// partOf is the place among t's Items of the part to which s leads.
func partOf(t api.Tree, s api.Step) (int, api.Errno) {
	kinds := map[int]int{api.StIndex: api.KVec, api.StKey: api.KMap, api.StMember: api.KSet}
	kind, is := kinds[s.Kind]
	if !is {
		return 0, api.ErrArg
	}
	if t.Kind != kind {
		return 0, api.ErrKind
	}
	place := s.Int
	switch kind {
	case api.KMap:
		place = slices.Index(t.Keys, s.Text)
	case api.KSet:
		place = slices.IndexFunc(t.Items, func(item api.Tree) bool { return keyOf(item) == s.Text })
	}
	if place < 0 || place >= len(t.Items) {
		return 0, api.ErrNone
	}
	return place, api.OK
}

// answer is a tree, or an error's number and place.
type answer struct {
	tree  api.Tree
	code  api.Errno
	place int
}

func refused(code api.Errno, place int) answer { return answer{code: code, place: place} }

// got is what Get must tell.
func got(t api.Tree, a []api.Step) answer {
	for i, s := range a {
		place, code := partOf(t, s)
		if code != api.OK {
			return refused(code, i)
		}
		t = t.Items[place]
	}
	return answer{tree: t}
}

// The calls that change a value.
const (
	doPut    = "Put"
	doInsert = "Insert"
	doCut    = "Cut"
	doAdd    = "Add"
)

// changed is what such a call must tell: it is done to a tree on the spot, and then all on the way up is looked at.
func changed(do string, t api.Tree, a []api.Step, x api.Tree) answer {
	t = cloned(t)
	lead := a // the steps to what the call is done to
	if do != doAdd {
		if len(a) == 0 && do == doPut {
			return answer{tree: x}
		}
		if len(a) == 0 {
			return refused(api.ErrEdge, 0)
		}
		lead = a[:len(a)-1]
	}
	way := []*api.Tree{&t}
	for i, s := range lead {
		place, code := partOf(*way[i], s)
		if code != api.OK {
			return refused(code, i)
		}
		if way[i].Kind == api.KSet {
			return refused(api.ErrSet, i)
		}
		way = append(way, &way[i].Items[place])
	}
	if code := done(do, way[len(lead)], a[len(lead):], x); code != api.OK {
		return refused(code, len(lead))
	}
	for i := len(lead); i >= 0; i-- {
		if depthOf(*way[i]) > 64 {
			return refused(api.ErrDepth, i)
		}
		if nodesOf(*way[i]) > 16384 {
			return refused(api.ErrNodes, i)
		}
	}
	return answer{tree: t}
}

// done does such a call to t, with the step that is left, if there is one.
func done(do string, t *api.Tree, left []api.Step, x api.Tree) api.Errno {
	if do == doAdd {
		if t.Kind != api.KSet {
			return api.ErrKind
		}
		if !slices.ContainsFunc(t.Items, func(item api.Tree) bool { return keyOf(item) == keyOf(x) }) {
			t.Items = append(t.Items, x)
		}
		return api.OK
	}
	s := left[0]
	place, code := partOf(*t, s)
	switch do {
	case doInsert:
		if s.Kind != api.StIndex || t.Kind != api.KVec {
			return api.ErrKind
		}
		if s.Int < 0 || s.Int > len(t.Items) {
			return api.ErrRange
		}
		t.Items = slices.Insert(t.Items, s.Int, x)
		return api.OK
	case doCut:
		if code == api.OK {
			t.Items = slices.Delete(t.Items, place, place+1)
			if t.Kind == api.KMap {
				t.Keys = slices.Delete(t.Keys, place, place+1)
			}
		}
		return code
	}
	switch {
	case code == api.ErrArg || code == api.ErrKind:
		return code
	case t.Kind == api.KSet:
		return api.ErrSet
	case code == api.OK:
		t.Items[place] = x
	case t.Kind == api.KVec:
		return code
	default:
		t.Keys, t.Items = append(t.Keys, s.Text), append(t.Items, x)
	}
	return api.OK
}

// all is the addresses of the canonical tree t, which lies at a, and of all that lies in it.
func all(t api.Tree, a []api.Step) [][]api.Step {
	list := [][]api.Step{a}
	for i, item := range t.Items {
		var s api.Step
		switch t.Kind {
		case api.KVec:
			s = toItem(i)
		case api.KMap:
			s = toKey(t.Keys[i])
		case api.KSet:
			s = toMember(keyOf(item))
		}
		list = append(list, all(item, append(slices.Clone(a), s))...)
	}
	return list
}

// begins is what Begins must tell.
func begins(a, b []api.Step) bool {
	for i, s := range a {
		if i == len(b) || s.Kind != b[i].Kind || s.Int != b[i].Int || s.Text != b[i].Text {
			return false
		}
	}
	return true
}

// apart is what Apart must tell.
func apart(l [][]api.Step) bool {
	for i, a := range l {
		for k, b := range l {
			if i != k && begins(a, b) {
				return false
			}
		}
	}
	return true
}

// What the letters of an address's tokens are, and those of what an address's text may begin with.
var (
	wholeLetters = regexp.MustCompile(`^\$(\[[it]\]|<t>)*$`)
	firstLetters = regexp.MustCompile(`^\$(\[[it]\]|<t>)*(\[[it]?|<t?)?$`)
)

// letterOf is a token's letter.
func letterOf(token api.Token) string {
	switch token.Kind {
	case api.TkInt:
		return "i"
	case api.TkText:
		return "t"
	case api.TkSign:
		return token.Text
	}
	return "w"
}

// parsed is what Parse must tell.
func parsed(s string) (a []api.Step, code api.Errno, place int) {
	var tokens []api.Token
	letters := ""
	for at := 0; ; at = tokens[len(tokens)-1].End {
		token, err := lex.Next(s, at)
		if err != nil {
			place, _ := fault.Last(err)
			return nil, fault.Code(err), place
		}
		if token.Kind == api.TkEnd {
			break
		}
		letters += letterOf(token)
		if !firstLetters.MatchString(letters) {
			return nil, api.ErrForm, token.At
		}
		tokens = append(tokens, token)
	}
	if !wholeLetters.MatchString(letters) {
		return nil, api.ErrShort, len(s)
	}
	for i := 1; i < len(tokens); i += 3 {
		switch letters[i : i+2] {
		case "[i":
			a = append(a, toItem(int(tokens[i+1].Int)))
		case "[t":
			a = append(a, toKey(tokens[i+1].Text))
		case "<t":
			a = append(a, toMember(tokens[i+1].Text))
		}
	}
	return a, api.OK, 0
}

// drawer draws numbers below n that look like any other ones, the same ones each time.
func drawer() func(n int) int {
	word := uint64(1)
	return func(n int) int {
		word = word*6364136223846793005 + 1442695040888963407
		return int(word >> 33 % uint64(n))
	}
}

// drawnTree is a tree that is drawn, no deeper than that.
func drawnTree(draw func(n int) int, depth int) api.Tree {
	texts := []string{"", "a", "b", "a\x00", "\xff\""}
	kind := draw(api.KSet + 1)
	if depth == 1 {
		kind = draw(api.KText + 1)
	}
	t := api.Tree{Kind: kind}
	switch kind {
	case api.KBool:
		t.Int = int64(draw(2))
	case api.KInt:
		t.Int = int64(draw(5)) - 1
	case api.KText:
		t.Text = texts[draw(len(texts))]
	case api.KVec, api.KMap, api.KSet:
		for range draw(5) {
			k, x := texts[draw(len(texts))], drawnTree(draw, depth-1)
			same := func(other api.Tree) bool { return keyOf(other) == keyOf(x) }
			if kind == api.KMap && slices.Contains(t.Keys, k) || kind == api.KSet && slices.ContainsFunc(t.Items, same) {
				continue
			}
			if kind == api.KMap {
				t.Keys = append(t.Keys, k)
			}
			t.Items = append(t.Items, x)
		}
	}
	return t
}

// drawnStep is a step that is drawn, mostly one that leads nowhere.
func drawnStep(draw func(n int) int) api.Step {
	texts := []string{"", "a", "b", "a\x00", "\xff\"", "zz", "\x01", "\x02\x01", "\x05\x00", "\x07\x00"}
	s := api.Step{Kind: draw(3)}
	if s.Kind == api.StIndex {
		s.Int = draw(7) - 1
	} else {
		s.Text = texts[draw(len(texts))]
	}
	switch draw(12) {
	case 0:
		s.Kind = []int{-1, 3, 1 << 40}[draw(3)]
	case 1: // what its Kind does not need
		s.Int += draw(3)
		s.Text += texts[draw(len(texts))]
	case 2:
		s.Int = []int{1<<63 - 1, -1 << 63}[draw(2)]
	}
	return s
}

// drawnAddress is one at which something lies in t, or one like it.
func drawnAddress(draw func(n int) int, t api.Tree) []api.Step {
	list := all(t, nil)
	a := list[draw(len(list))]
	for draw(2) == 0 {
		at := draw(len(a) + 1)
		switch draw(4) {
		case 0:
			a = a[:at]
		case 1:
			a = slices.Insert(slices.Clone(a), at, drawnStep(draw))
		case 2:
			a = append(slices.Clone(a[:at]), drawnStep(draw))
		default:
			a = append(slices.Clone(a), drawnStep(draw))
		}
	}
	return a
}
