package mark

import (
	"errors"
	"slices"
	"strconv"
	"strings"
	"sync"
	"testing"

	"leadlight/api"
	"leadlight/plain"
)

func el(name string, kids ...Node) Node { return Node{Name: name, Kids: kids} }

// with attributes: a name and a value in turn.
func with(n Node, l ...string) Node {
	n.Attrs = slices.Clone(n.Attrs)
	for i := 0; i < len(l); i += 2 {
		n.Attrs = append(n.Attrs, api.Attr{Name: l[i], Value: l[i+1]})
	}
	return n
}

// same: a nil list and an empty one are one thing.
func same(a, b Node) bool {
	return a.Name == b.Name && slices.Equal(a.Attrs, b.Attrs) && slices.EqualFunc(a.Kids, b.Kids, same)
}

func none(n Node) bool { return n.Name == "" && n.Attrs == nil && n.Kids == nil }

// told asks for an error by its place (-1: bare); a place stands in an *api.Fault alone, with the very error.
func told(err, want error, place int) bool {
	if place < 0 {
		return err == want
	}
	f, ok := err.(*api.Fault)
	return ok && f.At == place && f.Err == want && errors.Is(err, want)
}

// row of so many leaves.
func row(n int) []Node {
	l := make([]Node, n)
	for i := range l {
		l[i] = el("b")
	}
	return l
}

// chain of so many nodes, the last one with children.
func chain(n int, kids ...Node) Node {
	x := el("c", kids...)
	for range n - 1 {
		x = el("c", x)
	}
	return x
}

// plenty of attributes, all of them well.
func plenty(n int) Node {
	x := el("a")
	for i := range n {
		x = with(x, "k"+strconv.Itoa(i), "")
	}
	return x
}

type fault struct {
	n     Node
	place int
	err   error
}

// well: nothing is told.
func well(t *testing.T, list ...Node) {
	t.Helper()
	for i, n := range list {
		if err := Check(n); err != nil {
			t.Error(i, err)
		}
		s, err := Text(n)
		if err != nil {
			t.Error(i, err)
		}
		if x, err := Read(s); !same(x, n) || err != nil {
			t.Error(i, s, x, err)
		}
	}
}

// wrong: Check and Text tell the same fault, and Text nothing else.
func wrong(t *testing.T, list ...fault) {
	t.Helper()
	for i, c := range list {
		if err := Check(c.n); !told(err, c.err, c.place) {
			code, at := plain.Code(err)
			t.Error(i, "check", err, code, at, "want", c.err, c.place)
		}
		if s, err := Text(c.n); s != "" || !told(err, c.err, c.place) {
			t.Error(i, "text", s, err, "want", c.err, c.place)
		}
	}
}

// P30: a name's length, its first letter, and its letters.
func TestNames(t *testing.T) {
	for _, s := range []string{"a", "z", "a0", "a9", "a-", "a--", "group", "a-1-b", strings.Repeat("a", 12), "z" + strings.Repeat("9", 11)} {
		well(t, el(s), el("a", el(s)), with(el("a"), s, "v"))
	}
	bad := []string{"", "-", "-a", "0", "9a", "A", "aA", "Z", "a_", "a.b", "a:b", "a ", " a", "a\n", "a\x00", "é", "aé", "a\xff", "{", "`", "a{", "a`", "a/", "a:", "a,", strings.Repeat("a", 13), strings.Repeat("a", 1<<20), "a=", "a\"", "a<", "a>", "a&"}
	for _, s := range bad {
		wrong(t, fault{el(s), 0, api.ErrName}, fault{el("a", el("b"), el(s)), 2, api.ErrName}, fault{with(el("a"), s, ""), 0, api.ErrName}, fault{el("a", with(el("b"), "c", "", s, "")), 1, api.ErrName})
	}
}

// P30: every byte, as the first one of a name, a later one, and in a value.
func TestBytes(t *testing.T) {
	for i := range 256 {
		c := string([]byte{byte(i)})
		letter := strings.Contains("abcdefghijklmnopqrstuvwxyz", c)
		later := letter || strings.Contains("0123456789-", c)
		for _, x := range []struct {
			n   Node
			ok  bool
			err error
		}{
			{el(c), letter, api.ErrName}, {el("a" + c), later, api.ErrName}, {el("a" + c + "b"), later, api.ErrName}, {with(el("a"), c, ""), letter, api.ErrName}, {with(el("a"), "b"+c, ""), later, api.ErrName},
			{with(el("a"), "b", c), i >= 32 && i <= 126, api.ErrValue}, {with(el("a"), "b", "x"+c+"y"), i >= 32 && i <= 126, api.ErrValue},
		} {
			if x.ok {
				well(t, x.n)
			} else {
				wrong(t, fault{x.n, 0, x.err})
			}
		}
	}
}

// P30: a value's length is that of the value, not of its text.
func TestValues(t *testing.T) {
	for _, s := range []string{"", " ", "~", strings.Repeat("v", 200), strings.Repeat("\"", 200), "a b=c'/"} {
		well(t, with(el("a"), "b", s))
	}
	for _, s := range []string{strings.Repeat("v", 201), strings.Repeat("v", 1<<20), "\x7f", "\x1f", "\t", "\n", "é", "\x80", "\xff", "\x00", strings.Repeat("v", 199) + "\n"} {
		wrong(t, fault{with(el("a"), "b", s), 0, api.ErrValue}, fault{el("a", with(el("b"), "c", "", "d", s)), 1, api.ErrValue})
	}
}

// P31: the depth, with the first node at 1.
func TestDeep(t *testing.T) {
	well(t, chain(1), chain(api.MaxDeep), chain(api.MaxDeep-1, row(50)...), el("a", chain(9), chain(9), chain(9)))
	wrong(t,
		fault{chain(11), 10, api.ErrDeep}, fault{chain(500), 10, api.ErrDeep}, fault{chain(9, chain(1), chain(2)), 11, api.ErrDeep},
		fault{el("a", chain(9), chain(10)), 19, api.ErrDeep}, fault{chain(10, el("A")), 10, api.ErrDeep}, fault{chain(10, with(el("a"), "", "\n")), 10, api.ErrDeep}, fault{chain(9, el("A", el("a"))), 9, api.ErrName},
	)
}

// P31: as many nodes as there may be; the one behind them is told, whatever else it is.
func TestFull(t *testing.T) {
	well(t, el("a", row(99)...), el("a", append(row(90), chain(9))...), el("a", append([]Node{chain(9)}, row(90)...)...))
	wrong(t,
		fault{el("a", row(100)...), 100, api.ErrFull}, fault{el("a", row(5000)...), 100, api.ErrFull}, fault{el("a", append(row(99), el("A"))...), 100, api.ErrFull},
		fault{el("a", el("b", row(60)...), el("b", row(60)...)), 100, api.ErrFull},
		fault{el("a", append(row(90), chain(10))...), 100, api.ErrDeep}, fault{el("a", append(row(91), chain(10))...), 100, api.ErrFull}, fault{el("a", append(row(89), chain(10))...), 99, api.ErrDeep},
		fault{el("a", append(row(98), el("A"), el("b"))...), 99, api.ErrName}, fault{el("a", append(row(99), plenty(13))...), 100, api.ErrFull},
	)
}

// P31: as many attributes as there may be, and the order of an element's errors.
func TestAttrs(t *testing.T) {
	well(t, plenty(0), plenty(12), el("a", plenty(12), plenty(12)), with(el("a"), "a", "", "b", "", "ab", "a"))
	bad := plenty(12)
	bad.Name = "A"
	wrong(t,
		fault{plenty(13), 0, api.ErrFull}, fault{plenty(5000), 0, api.ErrFull}, fault{with(bad, "k", ""), 0, api.ErrName},
		fault{with(plenty(12), "A", "\n"), 0, api.ErrFull}, fault{with(plenty(12), "k0", ""), 0, api.ErrFull}, fault{with(plenty(11), "k0", ""), 0, api.ErrExist},
		fault{with(with(el("a"), "A", "\n"), make([]string, 24)...), 0, api.ErrFull}, fault{with(el("A"), "b", "\n"), 0, api.ErrName},
		fault{with(el("a"), "A", "\n"), 0, api.ErrName}, fault{with(el("a"), "A", "", "A", ""), 0, api.ErrName}, fault{with(el("a"), "b", "", "b", "\n"), 0, api.ErrExist}, fault{with(el("a"), "b", "x", "c", "", "b", "y"), 0, api.ErrExist},
		fault{with(el("a"), "b", "\n", "b", ""), 0, api.ErrValue}, fault{with(el("a"), "b", "\n", "", ""), 0, api.ErrValue}, fault{with(el("a"), "b", "", "b", "", "", ""), 0, api.ErrExist}, fault{with(el("a"), "", "", "b", "", "b", ""), 0, api.ErrName},
	)
}

// P31: the first node in order is told: a node ahead of its children, a child's children ahead of the next child.
func TestOrder(t *testing.T) {
	dup := with(el("d"), "k", "", "k", "")
	ctl := with(el("v"), "k", "\n")
	wrong(t,
		fault{el("A", dup, ctl), 0, api.ErrName}, fault{el("a", dup, el("A")), 1, api.ErrExist}, fault{el("a", el("b", el("c", ctl), dup), el("A")), 3, api.ErrValue},
		fault{el("a", el("b", el("c"), dup), el("A")), 3, api.ErrExist}, fault{el("a", el("b", el("c"), el("d", el("e"))), el("A", dup)), 5, api.ErrName},
		fault{el("a", el("b"), with(ctl, "k", "")), 2, api.ErrValue}, fault{Node{}, 0, api.ErrName}, fault{el("a", Node{}), 1, api.ErrName},
	)
	plentyThenDup := plenty(13)
	plentyThenDup.Kids = []Node{dup}
	wrong(t, fault{plentyThenDup, 0, api.ErrFull})
}

// P1: lists of children that hold themselves, and lists too long to be gone through.
func TestEnds(t *testing.T) {
	ring := make([]Node, 1)
	ring[0] = el("a", ring...)
	both := make([]Node, 2)
	both[0], both[1] = el("a", both...), el("b", both...)
	behind := append(row(3), Node{})
	behind[3] = el("a", behind...)
	wrong(t, fault{ring[0], 10, api.ErrDeep}, fault{el("a", both...), 10, api.ErrDeep}, fault{behind[3], 37, api.ErrDeep}, fault{el("a", make([]Node, 1<<20)...), 1, api.ErrName}, fault{Node{Name: "a", Attrs: make([]api.Attr, 1<<20)}, 0, api.ErrFull})
	well(t, Node{"a", nil, nil}, Node{"a", []api.Attr{}, []Node{}})
}

// P4, P3: what is handed over is only read, up to its length.
func TestOnlyRead(t *testing.T) {
	attrs := []api.Attr{{Name: "k", Value: "<"}, {Name: "k", Value: "\n"}, {}}
	kids := []Node{el("b"), el("A"), {}}
	n := Node{"a", attrs[:1], kids[:1]}
	if s, err := Text(n); s != `<a k="&lt;"><b/></a>` || err != nil || Check(n) != nil {
		t.Error(s, err)
	}
	if attrs[0].Value != "<" || attrs[1] != (api.Attr{Name: "k", Value: "\n"}) || attrs[2] != (api.Attr{}) || !same(kids[0], el("b")) || !same(kids[1], el("A")) || !none(kids[2]) {
		t.Error(attrs, kids)
	}
}

// P2: what others ask at the same time makes no difference.
func TestSideBySide(t *testing.T) {
	n := el("a", append([]Node{with(el("b"), "k", "<&>"), chain(9)}, row(40)...)...)
	want, err := Text(n)
	if err != nil {
		t.Fatal(err)
	}
	var wait sync.WaitGroup
	for range 8 {
		wait.Go(func() {
			for range 50 {
				s, e1 := Text(n)
				x, e2 := Read(s)
				e3 := Check(el("a", n, n, n))
				if s != want || !same(x, n) || e1 != nil || e2 != nil || !told(e3, api.ErrDeep, 11) {
					t.Error(e1, e2, e3)
					return
				}
			}
		})
	}
	wait.Wait()
}

// P31: places stay numbers of the order, also where depth and fullness meet at each count.
func TestPlaces(t *testing.T) {
	for n := range 120 {
		last := el("a", append(row(n), el("A"))...)
		place, err := n+1, api.ErrName
		if place >= api.MaxNodes {
			place, err = api.MaxNodes, api.ErrFull
		}
		wrong(t, fault{last, place, err})
	}
}
