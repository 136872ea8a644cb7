package doc

import (
	"slices"
	"strconv"
	"strings"
	"sync"
	"testing"

	"leadlight/api"
	"leadlight/mark"
)

func open(t testing.TB, s string) *Doc {
	t.Helper()
	n, err := mark.Read(s)
	if err != nil {
		t.Fatal(s, err)
	}
	d, err := New(n)
	if err != nil {
		t.Fatal(s, err)
	}
	return d
}

// text of a document; a fault of it is part of what is told.
func text(d *Doc) string {
	s, err := mark.Text(d.Node())
	if err != nil {
		return err.Error()
	}
	return s
}

// list of numbers, as it is written in these tests.
func list(l []int) string {
	var words []string
	for _, n := range l {
		words = append(words, strconv.Itoa(n))
	}
	return strings.Join(words, " ")
}

// sameNode: a nil list and an empty one are one thing.
func sameNode(a, b mark.Node) bool {
	return a.Name == b.Name && slices.Equal(a.Attrs, b.Attrs) && slices.EqualFunc(a.Kids, b.Kids, sameNode)
}

// chain of so many elements.
func chain(n int) string {
	return strings.Repeat("<c>", n) + strings.Repeat("</c>", n)
}

// wide element: so many in all.
func wide(n int) string { return "<w>" + strings.Repeat("<b/>", n-1) + "</w>" }

// P40: the numbers, each ahead of its children, in order.
func TestNew(t *testing.T) {
	for _, c := range []struct {
		text, all, names string
		count            int
	}{
		{"<a/>", "0", "a", 1},
		{"<a><b/></a>", "0 1", "a b", 2},
		{"<a><b/><c/><d/></a>", "0 1 2 3", "a b c d", 4},
		{"<a><b><c/><d><e/></d></b><f><g/></f><h/></a>", "0 1 2 3 4 5 6 7", "a b c d e f g h", 8},
		{"<a><a><a/></a><a/></a>", "0 1 2 3", "a a a a", 4},
		{`<a k="1" l=""><b l="&lt;"/></a>`, "0 1", "a b", 2},
	} {
		d := open(t, c.text)
		var names []string
		for _, n := range d.All() {
			names = append(names, d.Name(n))
		}
		if list(d.All()) != c.all || strings.Join(names, " ") != c.names || d.Count() != c.count || text(d) != c.text {
			t.Error(c.text, d.All(), names, d.Count(), text(d))
		}
	}
}

// P40: as many and as deep as a node may be.
func TestNewMost(t *testing.T) {
	deep := open(t, chain(api.MaxDeep))
	full := open(t, wide(api.MaxNodes))
	if deep.Count() != 10 || deep.Parent(9) != 8 || full.Count() != 100 || full.Parent(99) != 0 || len(full.Kids(0)) != 99 {
		t.Error(deep.All(), full.All())
	}
}

// P40: mark.Check's errors, with their places; nothing else is answered.
func TestNewWrong(t *testing.T) {
	ring := make([]mark.Node, 1)
	ring[0] = mark.Node{Name: "a", Kids: ring}
	deep := mark.Node{Name: "a"}
	for range 10 {
		deep = mark.Node{Name: "a", Kids: []mark.Node{deep}}
	}
	many := mark.Node{Name: "a"}
	for range 100 {
		many.Kids = append(many.Kids, mark.Node{Name: "b"})
	}
	attrs := func(l ...api.Attr) mark.Node {
		return mark.Node{Name: "a", Kids: []mark.Node{{Name: "b"}, {Name: "c", Attrs: l}}}
	}
	for i, c := range []struct {
		n     mark.Node
		place int
		err   error
	}{
		{mark.Node{}, 0, api.ErrName}, {mark.Node{Name: "A"}, 0, api.ErrName}, {ring[0], 10, api.ErrDeep}, {deep, 10, api.ErrDeep}, {many, 100, api.ErrFull},
		{attrs(api.Attr{Name: "K"}), 2, api.ErrName}, {attrs(api.Attr{Name: "k"}, api.Attr{Name: "k"}), 2, api.ErrExist}, {attrs(api.Attr{Name: "k", Value: "\n"}), 2, api.ErrValue}, {attrs(make([]api.Attr, 13)...), 2, api.ErrFull},
	} {
		d, err := New(c.n)
		f, ok := err.(*api.Fault)
		if d != nil || !ok || f.At != c.place || f.Err != c.err {
			t.Error(i, d != nil, err)
		}
	}
}

// P41: what an element is.
func TestElement(t *testing.T) {
	d := open(t, `<a x="1" y=""><b/><c x="2"><d/><e x="&lt;"/></c></a>`)
	for n, want := range []struct {
		name   string
		parent int
		kids   string
	}{{"a", -1, "1 2"}, {"b", 0, ""}, {"c", 0, "3 4"}, {"d", 2, ""}, {"e", 2, ""}} {
		if d.Name(n) != want.name || d.Parent(n) != want.parent || list(d.Kids(n)) != want.kids {
			t.Error(n, d.Name(n), d.Parent(n), d.Kids(n))
		}
	}
	for _, c := range []struct {
		n           int
		name, value string
		is          bool
	}{{0, "x", "1", true}, {0, "y", "", true}, {2, "x", "2", true}, {4, "x", "<", true}, {0, "z", "", false}, {2, "y", "", false}, {1, "x", "", false}, {0, "", "", false}, {0, "X", "", false}, {0, "x ", "", false}} {
		if v, is := d.Attr(c.n, c.name); v != c.value || is != c.is {
			t.Error(c.n, c.name, v, is)
		}
	}
}

// isNone: nothing is told of it.
func isNone(d *Doc, n int) bool {
	v, is := d.Attr(n, "k")
	return d.Name(n) == "" && d.Parent(n) == -1 && len(d.Kids(n)) == 0 && v == "" && !is
}

// P41, P1: of a number that is not in it: nothing; also of one that was in it.
func TestNoElement(t *testing.T) {
	d := open(t, `<a k="1"><b k="2"><c k="3"/></b><d k="4"/></a>`)
	for _, n := range []int{-1, -2, 4, 5, 100, 1 << 40, -1 << 63, 1<<63 - 1} {
		if !isNone(d, n) {
			t.Error(n)
		}
	}
	if err := d.Remove(1); err != nil || !isNone(d, 1) || !isNone(d, 2) || isNone(d, 3) || list(d.All()) != "0 3" {
		t.Error(err, d.All())
	}
}

// P1: a document that no call gave has no element: nothing is found in it, and nothing changes.
func TestZeroDoc(t *testing.T) {
	d := &Doc{}
	_, err := d.Add(0, 0, "a")
	if d.Count() != 0 || len(d.All()) > 0 || !isNone(d, 0) || !sameNode(d.Node(), mark.Node{}) || err != api.ErrNone || d.Remove(0) != api.ErrNone || d.Move(0, 0, 0) != api.ErrNone || d.Set(0, "a", "") != api.ErrNone || d.Unset(0, "a") != api.ErrNone {
		t.Error(d.All(), err)
	}
}

// P4: a later change of what was handed over does not show, and what is handed over is only read, up to its length.
func TestHandedOver(t *testing.T) {
	attrs := []api.Attr{{Name: "k", Value: "1"}, {Name: "l", Value: "2"}, {Name: "m", Value: "3"}}
	kids := []mark.Node{{Name: "b", Attrs: attrs[:1]}, {Name: "c"}, {Name: "x"}}
	n := mark.Node{Name: "a", Attrs: attrs[:2], Kids: kids[:2]}
	d, err := New(n)
	const want = `<a k="1" l="2"><b k="1"/><c/></a>`
	if err != nil || text(d) != want {
		t.Fatal(err, text(d))
	}
	attrs[0], kids[1], kids[0].Attrs = api.Attr{Name: "z"}, mark.Node{Name: "z"}, nil
	if text(d) != want {
		t.Error(text(d))
	}
	attrs[0] = api.Attr{Name: "k", Value: "1"}
	if d.Set(0, "k", "9") != nil || d.Set(0, "n", "4") != nil || d.Set(1, "n", "5") != nil || d.Unset(1, "k") != nil {
		t.Error(text(d))
	}
	if m, err := d.Add(0, 2, "y"); m != 3 || err != nil || d.Remove(2) != nil {
		t.Error(m, err)
	}
	if !slices.Equal(attrs, []api.Attr{{Name: "k", Value: "1"}, {Name: "l", Value: "2"}, {Name: "m", Value: "3"}}) || kids[2].Name != "x" || len(n.Kids) != 2 {
		t.Error(attrs, kids)
	}
	if text(d) != `<a k="9" l="2" n="4"><b n="5"/><y/></a>` {
		t.Error(text(d))
	}
}

// P4: nodes that share their lists are elements that share none.
func TestSharedLists(t *testing.T) {
	leaf := mark.Node{Name: "b", Attrs: []api.Attr{{Name: "k", Value: "1"}}}
	both := []mark.Node{leaf, leaf}
	d, err := New(mark.Node{Name: "a", Kids: []mark.Node{{Name: "c", Kids: both}, {Name: "c", Kids: both}}})
	if err != nil || d.Set(2, "k", "2") != nil || d.Remove(6) != nil {
		t.Fatal(err)
	}
	if text(d) != `<a><c><b k="2"/><b k="1"/></c><c><b k="1"/></c></a>` {
		t.Error(text(d))
	}
}

// scribble over a node's lists, also behind their lengths.
func scribble(n mark.Node) {
	for i := range n.Kids {
		scribble(n.Kids[i])
		n.Kids[i] = mark.Node{Name: "z"}
	}
	for i := range n.Attrs[:cap(n.Attrs)] {
		n.Attrs[:cap(n.Attrs)][i] = api.Attr{Name: "z", Value: "z"}
	}
	for i := range n.Kids[:cap(n.Kids)] {
		n.Kids[:cap(n.Kids)][i] = mark.Node{Name: "z"}
	}
}

// P4: what is answered is new memory.
func TestAnswers(t *testing.T) {
	const want = `<a k="1" l="2"><b k="3"><c/><d/></b><e><f m="4"/></e></a>`
	d := open(t, want)
	kept := d.Node()
	scribble(d.Node())
	for _, n := range d.All() {
		kids := d.Kids(n)
		for i := range kids[:cap(kids)] {
			kids[:cap(kids)][i] = 77
		}
	}
	all := d.All()
	for i := range all[:cap(all)] {
		all[:cap(all)][i] = 77
	}
	if text(d) != want || list(d.All()) != "0 1 2 3 4 5" || list(d.Kids(1)) != "2 3" {
		t.Error(text(d), d.All())
	}
	if d.Set(0, "k", "9") != nil || d.Unset(0, "l") != nil || d.Remove(2) != nil || d.Move(5, 0, 0) != nil {
		t.Error(text(d))
	}
	if s, err := mark.Text(kept); s != want || err != nil {
		t.Error(s, err)
	}
}

// P2: those who only look do not see each other; documents of one node are each their own.
func TestSideBySide(t *testing.T) {
	d := open(t, `<a k="1"><b><c/></b>`+strings.Repeat(`<d l="2"/>`, 20)+`</a>`)
	want, all := text(d), list(d.All())
	n := d.Node()
	var wait sync.WaitGroup
	for i := range 8 {
		wait.Go(func() {
			own, err := New(n)
			for range 30 {
				v, is := d.Attr(5, "l")
				if text(d) != want || list(d.All()) != all || d.Count() != 23 || d.Parent(2) != 1 || v != "2" || !is || err != nil {
					t.Error(text(d), err)
					return
				}
				if m, err := own.Add(0, i, "x"); err != nil || own.Set(m, "k", "v") != nil || own.Remove(m) != nil {
					t.Error(m, err)
					return
				}
			}
		})
	}
	wait.Wait()
}
