package fault

import (
	"errors"
	"fmt"
	"go/ast"
	"go/parser"
	"go/token"
	"math"
	"slices"
	"strings"
	"testing"

	"placket/api"
)

// codes are all numbers of errors, and some that are none of api's.
func codes() []api.Errno {
	l := []api.Errno{math.MinInt, -1, 20, 99, 100, math.MaxInt}
	for code := range api.ErrOther + 1 {
		l = append(l, code)
	}
	return l
}

// places are ordinary ones and edges.
var places = []int{0, 1, 3, 7, 10, 99, 1 << 32, math.MaxInt, -1, -10, math.MinInt}

// wrapped is an error of another package that unwraps to one.
type wrapped struct{ under error }

func (w wrapped) Error() string { return "wrapped" }

func (w wrapped) Unwrap() error { return w.under }

// loose is an error that can't be held against its like by ==.
type loose []error

func (l loose) Error() string { return "loose" }

func (l loose) Unwrap() error {
	if len(l) == 0 {
		return nil
	}
	return l[0]
}

// liar says that it is whatever is asked for, though it unwraps to something else.
type liar struct{ under error }

func (l liar) Error() string { return "liar" }

func (l liar) Unwrap() error { return l.under }

func (l liar) Is(error) bool { return true }

func (l liar) As(target any) bool {
	switch to := target.(type) {
	case *api.Errno:
		*to = api.ErrZero
	case **Fault:
		*to = &Fault{At: 55}
	}
	return true
}

// empty is a Fault that is nil, as an error.
func empty() error {
	var f *Fault
	return f
}

// sample is an error, with what must be told of it.
type sample struct {
	err   error
	codes []api.Errno // of the chain, the first one ahead
	where []int
}

// code is what Code must tell.
func (s sample) code() api.Errno {
	switch {
	case s.err == nil:
		return api.OK
	case len(s.codes) == 0:
		return api.ErrOther
	}
	return s.codes[0]
}

// text is what Text must tell.
func (s sample) text() string {
	if s.err == nil {
		return "ok"
	}
	text := fmt.Sprintf("error %d", int(s.code()))
	for _, at := range s.where {
		text += fmt.Sprintf(" at %d", at)
	}
	return text
}

// within is s in a Fault that no call made.
func (s sample) within(at int) sample {
	return sample{&Fault{At: at, Under: s.err}, s.codes, append([]int{at}, s.where...)}
}

// in is s as In must put it.
func (s sample) in(at int) sample {
	if s.err == nil {
		return s
	}
	return s.within(at)
}

// simple are errors of which none was put into another one by a call.
func simple() []sample {
	plain := errors.New("plain")
	l := []sample{
		{err: nil},
		{err: plain},
		{err: empty()},
		{err: &Fault{}, where: []int{0}},
		{err: &Fault{At: -4}, where: []int{-4}},
		{err: &Fault{At: 6, Under: plain}, where: []int{6}},
		{err: &Fault{At: 6, Under: empty()}, where: []int{6}},
		{err: &Fault{At: 6, Under: &Fault{}}, where: []int{6, 0}},
		{err: wrapped{}},
		{err: wrapped{api.ErrKind}, codes: []api.Errno{api.ErrKind}},
		{err: wrapped{empty()}},
		{err: wrapped{&Fault{2, wrapped{wrapped{&Fault{5, api.ErrSet}}}}}, codes: []api.Errno{api.ErrSet}, where: []int{2, 5}},
		{err: &Fault{1, wrapped{wrapped{nil}}}, where: []int{1}},
		{err: &Fault{1, wrapped{plain}}, where: []int{1}},
		{err: loose{}},
		{err: loose{api.ErrEdge, api.ErrMany}, codes: []api.Errno{api.ErrEdge}},
		{err: &Fault{1, loose{&Fault{2, api.ErrEdge}}}, codes: []api.Errno{api.ErrEdge}, where: []int{1, 2}},
		{err: liar{}},
		{err: liar{api.ErrTwice}, codes: []api.Errno{api.ErrTwice}},
		{err: liar{plain}},
		{err: &Fault{3, liar{&Fault{4, api.ErrTwice}}}, codes: []api.Errno{api.ErrTwice}, where: []int{3, 4}},
		{err: &Fault{3, liar{}}, where: []int{3}},
		{err: errors.Join(api.ErrForm, api.ErrKind)},
		{err: errors.Join(&Fault{8, api.ErrForm})},
		{err: &Fault{9, errors.Join(&Fault{8, api.ErrForm}, api.ErrKind)}, where: []int{9}},
		{err: fmt.Errorf("of %w", api.ErrNone), codes: []api.Errno{api.ErrNone}},
		{err: fmt.Errorf("of %w", &Fault{8, api.ErrNone}), codes: []api.Errno{api.ErrNone}, where: []int{8}},
		{err: fmt.Errorf("of %w and %w", api.ErrNone, api.ErrForm)},
	}
	for _, code := range codes() {
		l = append(l, sample{err: code, codes: []api.Errno{code}})
		l = append(l, sample{err: wrapped{&Fault{int(code), code}}, codes: []api.Errno{code}, where: []int{int(code)}})
	}
	return l
}

// samples are the simple ones, and each of them in others.
func samples() []sample {
	var l []sample
	for i, s := range simple() {
		a, b := places[i%len(places)], places[(i/3)%len(places)]
		l = append(l, s, s.in(a), s.in(a).in(b), s.within(b), s.within(a).in(b).within(a))
		if s.err != nil {
			l = append(l, sample{wrapped{s.in(a).err}, s.codes, s.in(a).where})
		}
	}
	return l
}

// P4.1.
func TestNew(t *testing.T) {
	for _, code := range codes() {
		for _, at := range places {
			err := New(code, at)
			if code == api.OK {
				if err != nil {
					t.Errorf("New(OK, %d): %v", at, err)
				}
				continue
			}
			f, is := err.(*Fault)
			if !is || f == nil {
				t.Fatalf("New(%d, %d) is no Fault", code, at)
			}
			if under, is := f.Under.(api.Errno); f.At != at || !is || under != code {
				t.Errorf("New(%d, %d): At %d, under it %v", code, at, f.At, f.Under)
			}
		}
	}
}

// P4.1.
func TestIn(t *testing.T) {
	for _, at := range places {
		if err := In(nil, at); err != nil {
			t.Errorf("In(nil, %d): %v", at, err)
		}
	}
	point := &Fault{4, api.ErrForm}
	for _, at := range places {
		for _, under := range []error{api.ErrForm, api.OK, point, empty(), wrapped{}, errors.New("plain")} {
			f, is := In(under, at).(*Fault)
			if !is || f == nil || f.At != at || f.Under == nil || f.Under != under {
				t.Fatalf("In(%#v, %d): %#v", under, at, f)
			}
		}
	}
	if f, is := In(loose{api.ErrForm}, 3).(*Fault); !is || len(f.Under.(loose)) != 1 {
		t.Error("In of what can't be held against its like")
	}
	if point.At != 4 || point.Under != api.ErrForm {
		t.Errorf("In changed what it put: %#v", point)
	}
}

// P4.1.
func TestUnwrap(t *testing.T) {
	var none *Fault
	if none.Unwrap() != nil || (&Fault{At: 3}).Unwrap() != nil || new(Fault).Unwrap() != nil {
		t.Error("Unwrap of a Fault under which is nothing")
	}
	if errors.Unwrap(New(api.ErrMore, 3)) != api.ErrMore {
		t.Error("Unwrap of what New made")
	}
	inner := New(api.ErrMore, 3)
	if errors.Unwrap(In(inner, 5)) != inner {
		t.Error("Unwrap of what In made")
	}
	if under, is := errors.Unwrap(In(empty(), 5)).(*Fault); !is || under != nil {
		t.Error("Unwrap of what has a Fault that is nil under it")
	}
	if !errors.Is(In(inner, 5), api.ErrMore) || errors.Is(In(inner, 5), api.ErrForm) {
		t.Error("a Fault is not gone down by errors.Is")
	}
	var code api.Errno
	if !errors.As(In(inner, 5), &code) || code != api.ErrMore {
		t.Error("a Fault is not gone down by errors.As")
	}
}

// P4.2.
func TestAsked(t *testing.T) {
	for i, s := range samples() {
		if code := Code(s.err); code != s.code() {
			t.Errorf("%d: Code(%#v): %d; want %d", i, s.err, code, s.code())
		}
		for _, code := range codes() {
			if has := Has(s.err, code); has != slices.Contains(s.codes, code) {
				t.Errorf("%d: Has(%#v, %d): %t", i, s.err, code, has)
			}
		}
		if where := Where(s.err); !slices.Equal(where, s.where) {
			t.Errorf("%d: Where(%#v): %v; want %v", i, s.err, where, s.where)
		}
		if text := Text(s.err); text != s.text() {
			t.Errorf("%d: Text(%#v): %s; want %s", i, s.err, text, s.text())
		}
		if f, is := s.err.(*Fault); is && f.Error() != s.text() {
			t.Errorf("%d: Error of %#v: %s; want %s", i, f, f.Error(), s.text())
		}
		at, is := Last(s.err)
		if len(s.where) == 0 {
			if at != 0 || is {
				t.Errorf("%d: Last(%#v): %d, %t", i, s.err, at, is)
			}
			continue
		}
		if want := s.where[len(s.where)-1]; at != want || !is {
			t.Errorf("%d: Last(%#v): %d, %t; want %d", i, s.err, at, is, want)
		}
	}
}

// P4.2: the chapter's own words, and edges of them.
func TestText(t *testing.T) {
	for _, x := range []struct {
		err  error
		text string
	}{
		{nil, "ok"},
		{New(api.OK, 3), "ok"},
		{In(nil, 3), "ok"},
		{In(New(api.OK, 3), 7), "ok"},
		{New(api.ErrForm, 3), "error 2 at 3"},
		{In(New(api.ErrForm, 3), 7), "error 2 at 7 at 3"},
		{In(In(New(api.ErrForm, 3), 7), -12), "error 2 at -12 at 7 at 3"},
		{api.ErrForm, "error 2"},
		{api.OK, "error 0"},
		{In(api.OK, 5), "error 0 at 5"},
		{api.Errno(-7), "error -7"},
		{New(123, math.MinInt), "error 123 at -9223372036854775808"},
		{In(errors.New("other"), math.MaxInt), "error 19 at 9223372036854775807"},
		{errors.New("other"), "error 19"},
		{&Fault{}, "error 19 at 0"},
		{empty(), "error 19"},
		{wrapped{New(api.ErrOver, 0)}, "error 17 at 0"},
	} {
		if text := Text(x.err); text != x.text {
			t.Errorf("Text(%#v): %s; want %s", x.err, text, x.text)
		}
	}
	var none *Fault
	if text := none.Error(); text != "error 19" {
		t.Errorf("Error of a Fault that is nil: %s", text)
	}
	if text := new(Fault).Error(); text != "error 19 at 0" {
		t.Errorf("Error of a Fault that no call made: %s", text)
	}
	if text := In(New(api.ErrForm, 3), 7).Error(); text != "error 2 at 7 at 3" {
		t.Errorf("Error of a Fault in another: %s", text)
	}
}

// P4.2: only the number that lies in the chain is there.
func TestOneNumberAlone(t *testing.T) {
	err := In(New(api.ErrForm, 3), 7)
	for _, code := range codes() {
		if Has(err, code) != (code == api.ErrForm) {
			t.Errorf("Has(%v, %d): %t", err, code, Has(err, code))
		}
	}
	if Has(errors.New("other"), api.ErrOther) || Has(nil, api.OK) || Has(&Fault{}, api.ErrOther) {
		t.Error("Has of what has no number")
	}
	if !Has(api.OK, api.OK) || !Has(In(api.OK, 4), api.OK) || Code(In(api.OK, 4)) != api.OK {
		t.Error("an OK that is an error")
	}
}

// P4.3.
func TestKept(t *testing.T) {
	for _, code := range codes() {
		if code == api.OK {
			continue
		}
		err := New(code, 41)
		want := []int{41}
		for depth := range 200 {
			if Code(err) != code || !Has(err, code) {
				t.Fatalf("%d deep: Code %d; want %d", depth, Code(err), code)
			}
			if at, is := Last(err); at != 41 || !is {
				t.Fatalf("%d deep: Last %d, %t", depth, at, is)
			}
			if where := Where(err); !slices.Equal(where, want) {
				t.Fatalf("%d deep: Where %v; want %v", depth, where, want)
			}
			at := places[depth%len(places)] + depth
			err = In(err, at)
			want = append([]int{at}, want...)
		}
	}
}

// P4.3, and Bound: very deep.
func TestVeryDeep(t *testing.T) {
	const deep = 1 << 16
	err := New(api.ErrDepth, -1)
	for at := range deep {
		if at%2 == 0 {
			err = wrapped{err}
		}
		err = In(err, at)
	}
	where := Where(err)
	if len(where) != deep+1 {
		t.Fatalf("%d places", len(where))
	}
	for i, at := range where {
		if at != deep-1-i {
			t.Fatalf("the place %d is %d", i, at)
		}
	}
	if at, is := Last(err); at != -1 || !is {
		t.Errorf("Last: %d, %t", at, is)
	}
	if Code(err) != api.ErrDepth || !Has(err, api.ErrDepth) || Has(err, api.ErrForm) {
		t.Error("the number is lost")
	}
	if text := Text(err); !strings.HasPrefix(text, "error 7 at 65535 at 65534 ") || !strings.HasSuffix(text, " at 1 at 0 at -1") {
		t.Error("Text of what is very deep")
	}
}

// R3, R4: places are memory of their own, and nothing that was asked changes what is asked next.
func TestPlacesAreNew(t *testing.T) {
	err := In(In(New(api.ErrForm, 3), 7), 9)
	for range 3 {
		where := Where(err)
		if !slices.Equal(where, []int{9, 7, 3}) {
			t.Fatalf("Where: %v", where)
		}
		clear(where)
		_ = append(where[:1], 77)
	}
	if text := Text(err); text != "error 2 at 9 at 7 at 3" {
		t.Errorf("Text: %s", text)
	}
}

// R3: what lies under an error is read when it is asked, and is left as it is.
func TestUnderIsLeft(t *testing.T) {
	inner := &Fault{3, api.ErrForm}
	err := In(inner, 7)
	for range 2 {
		Code(err)
		Has(err, api.ErrForm)
		Last(err)
		if Text(err) != "error 2 at 7 at 3" || inner.At != 3 || inner.Under != api.ErrForm {
			t.Errorf("%s, under which is %#v", Text(err), inner)
		}
	}
	other := In(inner, 8)
	if Text(other) != "error 2 at 8 at 3" || Text(err) != "error 2 at 7 at 3" {
		t.Error("one error in two others")
	}
}

// Ways: what lies under an error is asked by errors.Is and errors.As.
func TestWays(t *testing.T) {
	file, err := parser.ParseFile(token.NewFileSet(), "fault.go", nil, 0)
	if err != nil {
		t.Fatal(err)
	}
	for name, way := range map[string]string{"Code": "As", "Has": "Is", "Where": "As"} {
		if !asksErrors(file, name, way) {
			t.Errorf("%s does not ask by errors.%s", name, way)
		}
	}
}

// asksErrors tells whether the function of that name calls that one of package errors.
func asksErrors(file *ast.File, name, way string) bool {
	found := false
	for _, d := range file.Decls {
		f, ok := d.(*ast.FuncDecl)
		if !ok || f.Name.Name != name {
			continue
		}
		ast.Inspect(f, func(n ast.Node) bool {
			if s, ok := n.(*ast.SelectorExpr); ok && s.Sel.Name == way {
				if p, ok := s.X.(*ast.Ident); ok && p.Name == "errors" {
					found = true
				}
			}
			return true
		})
	}
	return found
}
