package doc

import (
	"errors"
	"slices"
	"testing"

	"leadlight/api"
	"leadlight/mark"
)

// twig of another document, made of values: it is looked for from the top, and each change makes the whole anew.
type twig struct {
	n     int
	name  string
	attrs []api.Attr
	kids  []twig
}

type model struct {
	top      twig
	greatest int
}

func grow(n mark.Node, next *int) twig {
	x := twig{n: *next, name: n.Name, attrs: slices.Clone(n.Attrs)}
	*next++
	for _, kid := range n.Kids {
		x.kids = append(x.kids, grow(kid, next))
	}
	return x
}

func (x twig) node() mark.Node {
	n := mark.Node{Name: x.name, Attrs: slices.Clone(x.attrs)}
	for _, kid := range x.kids {
		n.Kids = append(n.Kids, kid.node())
	}
	return n
}

func (x twig) find(n int) (twig, bool) {
	if x.n == n {
		return x, true
	}
	for _, kid := range x.kids {
		if y, ok := kid.find(n); ok {
			return y, true
		}
	}
	return twig{}, false
}

// with a change of the one twig that has this number.
func (x twig) with(n int, change func(x twig) twig) twig {
	kids := x.kids
	x.kids = nil
	for _, kid := range kids {
		x.kids = append(x.kids, kid.with(n, change))
	}
	if x.n == n {
		return change(x)
	}
	return x
}

func (x twig) without(n int) twig {
	kids := x.kids
	x.kids = nil
	for _, kid := range kids {
		if kid.n != n {
			x.kids = append(x.kids, kid.without(n))
		}
	}
	return x
}

func (x twig) insert(parent, at int, y twig) twig {
	return x.with(parent, func(p twig) twig {
		p.kids = slices.Concat(p.kids[:at], []twig{y}, p.kids[at:])
		return p
	})
}

// checked tells a fault of the whole, by mark.Check, without its place.
func checked(x twig) error {
	var f *api.Fault
	if errors.As(mark.Check(x.node()), &f) {
		return f.Err
	}
	return nil
}

func (m *model) add(parent, at int, name string) (int, error) {
	p, ok := m.top.find(parent)
	if !ok {
		return 0, api.ErrNone
	}
	if at < 0 || at > len(p.kids) {
		return 0, api.ErrBound
	}
	if mark.Check(mark.Node{Name: name}) != nil {
		return 0, api.ErrName
	}
	then := m.top.insert(parent, at, twig{n: m.greatest + 1, name: name})
	if err := checked(then); err != nil {
		return 0, err
	}
	m.top = then
	m.greatest++
	return m.greatest, nil
}

func (m *model) remove(n int) error {
	if _, ok := m.top.find(n); !ok {
		return api.ErrNone
	}
	if n == 0 {
		return api.ErrShape
	}
	m.top = m.top.without(n)
	return nil
}

func (m *model) move(n, parent, at int) error {
	x, ok1 := m.top.find(n)
	_, ok2 := m.top.find(parent)
	if !ok1 || !ok2 {
		return api.ErrNone
	}
	if n == 0 {
		return api.ErrShape
	}
	if _, below := x.find(parent); below {
		return api.ErrCycle
	}
	left := m.top.without(n)
	if p, _ := left.find(parent); at < 0 || at > len(p.kids) {
		return api.ErrBound
	}
	then := left.insert(parent, at, x)
	if err := checked(then); err != nil {
		return err
	}
	m.top = then
	return nil
}

func (m *model) set(n int, name, value string) error {
	x, ok := m.top.find(n)
	if !ok {
		return api.ErrNone
	}
	one := mark.Node{Name: "a", Attrs: []api.Attr{{Name: name, Value: value}}}
	if err := mark.Check(one); err != nil {
		return errors.Unwrap(err)
	}
	attrs := slices.Clone(x.attrs)
	is := false
	for i := range attrs {
		if attrs[i].Name == name {
			attrs[i].Value, is = value, true
		}
	}
	if !is {
		attrs = append(attrs, one.Attrs[0])
	}
	then := m.top.with(n, func(x twig) twig { x.attrs = attrs; return x })
	if err := checked(then); err != nil {
		return err
	}
	m.top = then
	return nil
}

func (m *model) unset(n int, name string) error {
	x, ok := m.top.find(n)
	var attrs []api.Attr
	for _, a := range x.attrs {
		if a.Name != name {
			attrs = append(attrs, a)
		}
	}
	if !ok || len(attrs) == len(x.attrs) {
		return api.ErrNone
	}
	m.top = m.top.with(n, func(x twig) twig { x.attrs = attrs; return x })
	return nil
}

// flat: the twigs in order, each with its parent's number.
func (x twig) flat(parent int) (list []twig, parents []int) {
	list, parents = []twig{x}, []int{parent}
	for _, kid := range x.kids {
		l, p := kid.flat(x.n)
		list, parents = append(list, l...), append(parents, p...)
	}
	return list, parents
}

func numbers(list []twig) []int {
	var l []int
	for _, x := range list {
		l = append(l, x.n)
	}
	return l
}

// P40, P41: all that a document tells is as the model has it.
func alike(t *testing.T, d *Doc, m *model) {
	t.Helper()
	list, parents := m.top.flat(-1)
	if all := numbers(list); !slices.Equal(d.All(), all) || d.Count() != len(all) || !sameNode(d.Node(), m.top.node()) {
		t.Fatal(d.All(), all, d.Count())
	}
	for i, x := range list {
		if d.Name(x.n) != x.name || d.Parent(x.n) != parents[i] || !slices.Equal(d.Kids(x.n), numbers(x.kids)) {
			t.Fatal(x.n, d.Name(x.n), d.Parent(x.n), d.Kids(x.n))
		}
		for _, a := range x.attrs {
			if v, is := d.Attr(x.n, a.Name); v != a.Value || !is {
				t.Fatal(x.n, a, v, is)
			}
		}
	}
	for n := -2; n < m.greatest+3; n++ {
		if _, ok := m.top.find(n); !ok && !isNone(d, n) {
			t.Fatal(n, "is told, but not in it")
		}
	}
	oneParent(t, d)
}

// P43: every element but the root has one parent, of which it is a child once; the root has none.
func oneParent(t *testing.T, d *Doc) {
	t.Helper()
	all := d.All()
	times := map[int]int{}
	for _, n := range all {
		for _, kid := range d.Kids(n) {
			times[kid]++
			if d.Parent(kid) != n {
				t.Fatal(kid, "is a child of", n, "and has the parent", d.Parent(kid))
			}
		}
	}
	for _, n := range all {
		if n != 0 && times[n] != 1 || n == 0 && (times[n] != 0 || d.Parent(n) != -1) {
			t.Fatal(n, "is a child", times[n], "times")
		}
	}
	if len(times) != d.Count()-1 || len(all) != d.Count() {
		t.Fatal(len(times), d.Count())
	}
}

// tape of bytes that tell which calls are made; behind its end there are zeros.
type tape struct{ rest []byte }

func (p *tape) below(n int) int {
	if len(p.rest) == 0 {
		return 0
	}
	c := int(p.rest[0])
	p.rest = p.rest[1:]
	return c % n
}

// number of an element, mostly one that is in it.
func (p *tape) number(d *Doc) int {
	all := d.All()
	switch p.below(8) {
	case 0:
		return p.below(12) - 2
	case 1:
		return d.next - p.below(20) + 2
	case 2, 3:
		return slices.MaxFunc(all, func(a, b int) int { return above(d, a) - above(d, b) })
	case 4:
		return 0
	}
	return all[p.below(len(all))]
}

// above: how many elements an element lies below.
func above(d *Doc, n int) int {
	count := 0
	for n = d.Parent(n); n >= 0; n = d.Parent(n) {
		count++
	}
	return count
}

func (p *tape) name() string {
	names := []string{"a", "b", "c", "d", "e", "f", "g", "h", "i", "j", "k", "l", "m", "n", "", "B", "long-long-99", "long-long-999"}
	return names[p.below(len(names))]
}

func (p *tape) value() string {
	return []string{"", "1", "<&>", "\n", "x y"}[p.below(5)]
}

func (p *tape) at(d *Doc, parent int) int {
	return p.below(len(d.Kids(parent))+3) - 1
}

// step makes one call of both; it tells the call's kind and its error.
func (p *tape) step(t *testing.T, d *Doc, m *model) (string, error) {
	t.Helper()
	kinds := []string{"add", "add", "add", "add", "move", "move", "add", "add", "add", "move", "move", "set", "set", "set", "unset", "remove"}
	kind := kinds[p.below(len(kinds))]
	n := p.number(d)
	var err, want error
	switch kind {
	case "add":
		at, name := p.at(d, n), p.name()
		got, e1 := d.Add(n, at, name)
		is, e2 := m.add(n, at, name)
		if got != is {
			t.Fatal("add", n, at, name, got, e1, "want", is, e2)
		}
		err, want = e1, e2
	case "remove":
		err, want = d.Remove(n), m.remove(n)
	case "move":
		parent := p.number(d)
		at := p.at(d, parent)
		err, want = d.Move(n, parent, at), m.move(n, parent, at)
	case "set":
		name, value := p.name(), p.value()
		err, want = d.Set(n, name, value), m.set(n, name, value)
	case "unset":
		name := p.name()
		err, want = d.Unset(n, name), m.unset(n, name)
	}
	if err != want {
		t.Fatal(kind, n, err, "want", want)
	}
	return kind, err
}

// both a document and the model, of one text.
func both(t testing.TB, s string) (*Doc, *model) {
	d := open(t, s)
	next := 0
	top := grow(d.Node(), &next)
	return d, &model{top: top, greatest: next - 1}
}

// outcome of a call: its kind and its error.
type outcome struct {
	kind string
	err  error
}

// P40 to P43: long lists of calls; each answer, and all that is told then, is as another document has it.
func TestAsModel(t *testing.T) {
	seen := map[outcome]int{}
	state := uint32(1)
	for _, s := range []string{"<a/>", chain(9), wide(98), "<a>" + chain(9) + chain(5) + "<x><y/></x></a>", `<a a="1" b="2" c="3" d="4" e="5" f="6" g="7" h="8" i="9" j="10" k="11" l="12"><b l="2"/><c><d/></c></a>`} {
		for range 12 {
			bytes := make([]byte, 2500)
			for i := range bytes {
				state = state*1664525 + 1013904223
				bytes[i] = byte(state >> 16)
			}
			d, m := both(t, s)
			for p := (&tape{bytes}); len(p.rest) > 0; {
				kind, err := p.step(t, d, m)
				seen[outcome{kind, err}]++
				alike(t, d, m)
			}
		}
	}
	for kind, errs := range map[string][]error{
		"add": {nil, api.ErrNone, api.ErrBound, api.ErrName, api.ErrDeep, api.ErrFull}, "remove": {nil, api.ErrNone, api.ErrShape}, "move": {nil, api.ErrNone, api.ErrShape, api.ErrCycle, api.ErrBound, api.ErrDeep},
		"set": {nil, api.ErrNone, api.ErrName, api.ErrValue, api.ErrFull}, "unset": {nil, api.ErrNone},
	} {
		for _, err := range errs {
			if times := seen[outcome{kind, err}]; times < 5 {
				t.Error(kind, err, "was told only", times, "times")
			}
		}
	}
}

// P1, P40 to P43: whatever calls are made, they answer as the model does.
func FuzzCalls(f *testing.F) {
	f.Add("<a/>", []byte{})
	f.Add(`<a k="1"><b/><c><d/></c></a>`, []byte("some calls, whatever they are: 0123456789"))
	f.Add(chain(9), []byte{0, 3, 8, 0, 0, 1, 2, 3, 4, 5, 6, 7, 8})
	f.Fuzz(func(t *testing.T, s string, bytes []byte) {
		n, err := mark.Read(s)
		if err != nil || len(bytes) > 2000 {
			return
		}
		d, err := New(n)
		if err != nil {
			t.Fatal(err)
		}
		next := 0
		top := grow(n, &next)
		m := &model{top: top, greatest: next - 1}
		for p := (&tape{bytes}); len(p.rest) > 0; {
			p.step(t, d, m)
			alike(t, d, m)
		}
	})
}
