package codec

// Plain trees and their texts, by the chapter's words alone: what codec must come to.

import (
	"encoding/binary"
	"slices"
	"sort"
	"strconv"
	"strings"

	"placket/api"
	"placket/fault"
	"placket/lex"
	"placket/quote"
)

func boolean(n int64) api.Tree { return api.Tree{Kind: api.KBool, Int: n} }

func number(n int64) api.Tree { return api.Tree{Kind: api.KInt, Int: n} }

func text(s string) api.Tree { return api.Tree{Kind: api.KText, Text: s} }

func vec(items ...api.Tree) api.Tree { return api.Tree{Kind: api.KVec, Items: items} }

func set(items ...api.Tree) api.Tree { return api.Tree{Kind: api.KSet, Items: items} }

// dict is a map of these keys, with a blank between, and what they have.
func dict(keys string, items ...api.Tree) api.Tree {
	return api.Tree{Kind: api.KMap, Keys: strings.Fields(keys), Items: items}
}

// keyOf is the key of the value that t tells, which need not be canonical.
func keyOf(t api.Tree) string {
	var inner []string
	for i, item := range t.Items {
		k := ""
		if t.Kind == api.KMap {
			k = keyOf(text(t.Keys[i]))
		}
		inner = append(inner, k+keyOf(item))
	}
	if t.Kind != api.KVec {
		sort.Strings(inner) // no key begins another one
	}
	switch t.Kind {
	case api.KNull:
		return "\x01"
	case api.KBool:
		return "\x02" + string([]byte{byte(t.Int)})
	case api.KInt:
		return "\x03" + string(binary.BigEndian.AppendUint64(nil, uint64(t.Int)+1<<63))
	case api.KText:
		return "\x04" + strings.ReplaceAll(t.Text, "\x00", "\x00\xff") + "\x00\x00"
	}
	return string([]byte{byte(t.Kind) + 1}) + strings.Join(inner, "") + "\x00"
}

// canonical is the canonical tree of what t tells, in memory of its own.
func canonical(t api.Tree) api.Tree {
	c := api.Tree{Kind: t.Kind, Int: t.Int, Text: t.Text, Keys: append([]string(nil), t.Keys...)}
	sort.Strings(c.Keys)
	for i, item := range t.Items {
		if t.Kind == api.KMap {
			item = t.Items[slices.Index(t.Keys, c.Keys[i])]
		}
		c.Items = append(c.Items, canonical(item))
	}
	if t.Kind == api.KSet {
		slices.SortFunc(c.Items, func(a, b api.Tree) int {
			return strings.Compare(keyOf(a), keyOf(b))
		})
	}
	return c
}

// textOf is the text of what t tells, with its keys and members as they stand in t; of a canonical tree the canonical one.
func textOf(t api.Tree) string {
	var parts []string
	for i, item := range t.Items {
		part := textOf(item)
		if t.Kind == api.KMap {
			part = quote.Quote(t.Keys[i]) + ":" + part
		}
		parts = append(parts, part)
	}
	inner := strings.Join(parts, ",")
	switch t.Kind {
	case api.KBool:
		return strconv.FormatBool(t.Int == 1)
	case api.KInt:
		return strconv.FormatInt(t.Int, 10)
	case api.KText:
		return quote.Quote(t.Text)
	case api.KVec:
		return "[" + inner + "]"
	case api.KMap:
		return "{" + inner + "}"
	case api.KSet:
		return "<" + inner + ">"
	}
	return "null"
}

// What may stand where a token is asked for; the end is the sign behind all parts.
const (
	valueOrEnd = iota
	keyOrEnd
	aValue
	aKey
	aColon
	commaOrEnd
)

// machine reads a value with what is open in a list, token by token.
type machine struct {
	open  []started
	want  int
	nodes int
}

// started is a value with parts that has begun at a place.
type started struct {
	tree  api.Tree
	place int
}

// take is what Take must tell of s from at on: a tree and its end, or an error's number and place.
func take(s string, at int) (t api.Tree, end int, code api.Errno, place int) {
	if at < 0 || at > len(s) {
		return api.Tree{}, 0, api.ErrArg, 0
	}
	m := machine{want: aValue}
	for {
		token, err := lex.Next(s, at)
		if err != nil {
			place, _ := fault.Last(err)
			return api.Tree{}, 0, fault.Code(err), place
		}
		if token.Kind == api.TkEnd {
			return api.Tree{}, 0, api.ErrShort, len(s)
		}
		at = token.End
		all, done, code, place := m.step(token)
		if code != api.OK {
			return api.Tree{}, 0, code, place
		}
		if done {
			return all, at, api.OK, 0
		}
	}
}

// step takes a token; done: it ends the value that was begun first.
func (m *machine) step(token api.Token) (all api.Tree, done bool, code api.Errno, place int) {
	kind, sign := strings.Index("[{<", token.Text), token.Kind == api.TkSign
	ends := sign && len(m.open) > 0 && token.Text == "]}>"[m.top().Kind-api.KVec:][:1]
	switch {
	case ends && (m.want < aValue || m.want == commaOrEnd):
		last := m.open[len(m.open)-1]
		m.open = m.open[:len(m.open)-1]
		return m.lay(last.tree, last.place)
	case m.want == commaOrEnd && sign && token.Text == ",":
		m.want = aValue
		if m.top().Kind == api.KMap {
			m.want = aKey
		}
	case m.want == aColon && sign && token.Text == ":":
		m.want = aValue
	case (m.want == aKey || m.want == keyOrEnd) && token.Kind == api.TkText:
		if slices.Contains(m.top().Keys, token.Text) {
			return api.Tree{}, false, api.ErrTwice, token.At
		}
		m.top().Keys = append(m.top().Keys, token.Text)
		m.want = aColon
	case m.want == aValue || m.want == valueOrEnd:
		x, is := scalarOf(token)
		begins := sign && kind >= 0
		if !is && !begins {
			return api.Tree{}, false, api.ErrForm, token.At
		}
		m.nodes++
		if len(m.open) == 64 {
			return api.Tree{}, false, api.ErrDepth, token.At
		}
		if m.nodes > 16384 {
			return api.Tree{}, false, api.ErrNodes, token.At
		}
		if is {
			return m.lay(x, token.At)
		}
		m.open = append(m.open, started{api.Tree{Kind: api.KVec + kind}, token.At})
		m.want = valueOrEnd
		if kind == 1 {
			m.want = keyOrEnd
		}
	default:
		return api.Tree{}, false, api.ErrForm, token.At
	}
	return api.Tree{}, false, api.OK, 0
}

func (m *machine) top() *api.Tree {
	return &m.open[len(m.open)-1].tree
}

// lay lays what has been read, and began at a place, into what it lies in.
func (m *machine) lay(x api.Tree, place int) (all api.Tree, done bool, code api.Errno, at int) {
	if len(m.open) == 0 {
		return x, true, api.OK, 0
	}
	if m.top().Kind == api.KSet {
		for _, other := range m.top().Items {
			if x.Kind == other.Kind && keyOf(x) == keyOf(other) {
				return api.Tree{}, false, api.ErrTwice, place
			}
		}
	}
	m.top().Items = append(m.top().Items, x)
	m.want = commaOrEnd
	return api.Tree{}, false, api.OK, 0
}

// scalarOf is the scalar that a token is.
func scalarOf(token api.Token) (api.Tree, bool) {
	switch token.Kind {
	case api.TkInt:
		return number(token.Int), true
	case api.TkText:
		return text(token.Text), true
	case api.TkWord:
		names := map[string]api.Tree{"null": {}, "true": boolean(1), "false": boolean(0)}
		t, is := names[token.Text]
		return t, is
	}
	return api.Tree{}, false
}

// parse is what Parse must tell of s.
func parse(s string) (t api.Tree, code api.Errno, place int) {
	if len(s) > 1048576 {
		return api.Tree{}, api.ErrMany, 0
	}
	t, end, code, place := take(s, 0)
	if code != api.OK {
		return api.Tree{}, code, place
	}
	rest, err := lex.Next(s, end)
	if err != nil {
		place, _ := fault.Last(err)
		return api.Tree{}, fault.Code(err), place
	}
	if rest.Kind != api.TkEnd {
		return api.Tree{}, api.ErrMore, rest.At
	}
	return t, api.OK, 0
}

// canon is what Canon must tell of s.
func canon(s string) bool {
	t, end, code, _ := take(s, 0)
	return code == api.OK && end == len(s) && textOf(canonical(t)) == s
}

// drawer draws numbers below n that look like any other ones, the same ones each time.
func drawer() func(n int) int {
	word := uint64(1)
	return func(n int) int {
		word = word*6364136223846793005 + 1442695040888963407
		return int(word >> 33 % uint64(n))
	}
}

// drawn is a tree that is drawn, no deeper than that; its keys and members rise or not.
func drawn(draw func(n int) int, depth int) api.Tree {
	texts := []string{"", "a", "b", "ab", "a\x00", "\x00", "\"\\/", "\n\t\r", "\xff\x7f ", "null", "é", "[1]"}
	numbers := []int64{0, 1, 2, -1, 10, 255, -40, 1<<63 - 1, -1 << 63}
	kind := draw(api.KSet + 1)
	if depth == 1 {
		kind = draw(api.KText + 1)
	}
	t := api.Tree{Kind: kind}
	switch kind {
	case api.KBool:
		t.Int = int64(draw(2))
	case api.KInt:
		t.Int = numbers[draw(len(numbers))]
	case api.KText:
		t.Text = texts[draw(len(texts))]
	case api.KVec, api.KMap, api.KSet:
		for range draw(5) {
			k, x := texts[draw(len(texts))], drawn(draw, depth-1)
			same := func(other api.Tree) bool { return keyOf(other) == keyOf(x) }
			if kind == api.KMap && slices.Contains(t.Keys, k) || kind == api.KSet && slices.ContainsFunc(t.Items, same) {
				continue
			}
			if kind == api.KMap {
				t.Keys = append(t.Keys, k)
			}
			t.Items = append(t.Items, x)
		}
	}
	return t
}
