package doc

import (
	"strconv"
	"strings"
	"testing"

	"leadlight/api"
)

// all that a document tells, as one text: with its next number, which a later call could tell.
func all(d *Doc) string {
	s := text(d) + " of " + list(d.All()) + " count " + strconv.Itoa(d.Count()) + " next " + strconv.Itoa(d.next)
	for _, n := range d.All() {
		s += " | " + strconv.Itoa(d.Parent(n)) + ": " + list(d.Kids(n))
	}
	return s
}

// refuses: a call that answers just this error, bare, and changes nothing.
func refuses(t *testing.T, d *Doc, want error, call func() error) {
	t.Helper()
	was := all(d)
	if err := call(); err != want {
		t.Error(err, "want", want)
	}
	if is := all(d); is != was {
		t.Error("changed:", is, "was", was)
	}
}

// addTo: a call of Add that answers no number.
func addTo(t *testing.T, d *Doc, parent, at int, name string) func() error {
	return func() error {
		n, err := d.Add(parent, at, name)
		if n != 0 {
			t.Error(n, err)
		}
		return err
	}
}

// P42: a new element at each place.
func TestAdd(t *testing.T) {
	for at, want := range []string{"<a><x/><b/><c/><d/></a>", "<a><b/><x/><c/><d/></a>", "<a><b/><c/><x/><d/></a>", "<a><b/><c/><d/><x/></a>"} {
		d := open(t, "<a><b/><c/><d/></a>")
		if n, err := d.Add(0, at, "x"); n != 4 || err != nil || text(d) != want || d.Count() != 5 || d.Parent(4) != 0 || d.Name(4) != "x" || d.Kids(0)[at] != 4 || len(d.Kids(4)) > 0 {
			t.Error(at, n, err, text(d))
		}
	}
	d := open(t, "<a><b/><c/></a>")
	for i, parent := range []int{1, 3, 4, 0} {
		if n, err := d.Add(parent, 0, "x-"+strconv.Itoa(i)); n != 3+i || err != nil {
			t.Error(i, n, err)
		}
	}
	if text(d) != "<a><x-3/><b><x-0><x-1><x-2/></x-1></x-0></b><c/></a>" || list(d.All()) != "0 6 1 3 4 5 2" {
		t.Error(text(d), d.All())
	}
}

// P42: one more than the greatest there ever was, also where that one is removed, or none was made.
func TestNumbers(t *testing.T) {
	d := open(t, "<a><b><c/></b></a>")
	for i := range 300 {
		n, err := d.Add(0, 1, "x")
		if n != 3+i || err != nil || d.Remove(n) != nil {
			t.Fatal(i, n, err)
		}
		refuses(t, d, api.ErrName, addTo(t, d, 0, 0, "X"))
	}
	if d.Remove(1) != nil || d.Count() != 1 || text(d) != "<a/>" {
		t.Error(all(d))
	}
	if n, err := d.Add(0, 0, "y"); n != 303 || err != nil || d.Count() != 2 {
		t.Error(n, err)
	}
	refuses(t, d, api.ErrNone, addTo(t, d, 1, 0, "x"))
	refuses(t, d, api.ErrNone, addTo(t, d, 302, 0, "x"))
}

// P42: Add's errors, and their order.
func TestAddWrong(t *testing.T) {
	d := open(t, "<a><b/><c/></a>")
	for _, c := range []struct {
		parent, at int
		name       string
		err        error
	}{
		{-1, 0, "x", api.ErrNone}, {3, 0, "x", api.ErrNone}, {1 << 40, -1, "X", api.ErrNone}, {-1 << 63, 0, "", api.ErrNone},
		{0, -1, "x", api.ErrBound}, {0, 3, "x", api.ErrBound}, {1, 1, "x", api.ErrBound}, {0, -1 << 63, "X", api.ErrBound}, {0, 1<<63 - 1, "", api.ErrBound},
		{0, 0, "", api.ErrName}, {0, 2, "X", api.ErrName}, {0, 0, "-x", api.ErrName}, {0, 0, "x y", api.ErrName}, {0, 0, "x\n", api.ErrName}, {0, 0, "é", api.ErrName}, {0, 0, strings.Repeat("x", 13), api.ErrName},
	} {
		refuses(t, d, c.err, addTo(t, d, c.parent, c.at, c.name))
	}
	if n, err := d.Add(0, 2, strings.Repeat("x", 12)); n != 3 || err != nil {
		t.Error(n, err)
	}
}

// P42: how deep and how many; ErrBound and ErrName ahead of ErrDeep, ErrDeep ahead of ErrFull.
func TestAddMost(t *testing.T) {
	d := open(t, chain(9))
	if n, err := d.Add(8, 0, "x"); n != 9 || err != nil {
		t.Fatal(n, err)
	}
	refuses(t, d, api.ErrDeep, addTo(t, d, 9, 0, "x"))
	refuses(t, d, api.ErrBound, addTo(t, d, 9, 1, "x"))
	refuses(t, d, api.ErrName, addTo(t, d, 9, 0, "X"))
	for d.Count() < api.MaxNodes {
		if _, err := d.Add(0, 1, "x"); err != nil {
			t.Fatal(err)
		}
	}
	refuses(t, d, api.ErrFull, addTo(t, d, 0, 0, "x"))
	refuses(t, d, api.ErrFull, addTo(t, d, 8, 1, "x"))
	refuses(t, d, api.ErrDeep, addTo(t, d, 9, 0, "x"))
	refuses(t, d, api.ErrName, addTo(t, d, 0, 0, "X"))
	refuses(t, d, api.ErrBound, addTo(t, d, 0, 99, "x"))
	refuses(t, d, api.ErrNone, addTo(t, d, 100, 0, "x"))
	if d.Remove(9) != nil {
		t.Error(text(d))
	}
	if n, err := d.Add(0, 0, "x"); n != 100 || err != nil || d.Count() != 100 {
		t.Error(n, err)
	}
}

// P42: an element goes with all below, and nothing else.
func TestRemove(t *testing.T) {
	for n, want := range map[int]string{
		1: "<a><e><f/></e><g/></a> of 0 4 5 6", 2: "<a><b><d/></b><e><f/></e><g/></a> of 0 1 3 4 5 6", 3: "<a><b><c/></b><e><f/></e><g/></a> of 0 1 2 4 5 6",
		4: "<a><b><c/><d/></b><g/></a> of 0 1 2 3 6", 5: "<a><b><c/><d/></b><e/><g/></a> of 0 1 2 3 4 6", 6: "<a><b><c/><d/></b><e><f/></e></a> of 0 1 2 3 4 5",
	} {
		d := open(t, "<a><b><c/><d/></b><e><f/></e><g/></a>")
		if err := d.Remove(n); err != nil || text(d)+" of "+list(d.All()) != want || d.Count() != len(d.All()) || !isNone(d, n) {
			t.Error(n, err, all(d))
		}
		refuses(t, d, api.ErrNone, func() error { return d.Remove(n) })
	}
	d := open(t, "<a><b><c/></b></a>")
	for _, n := range []int{-1, 3, 1 << 40, -1 << 63} {
		refuses(t, d, api.ErrNone, func() error { return d.Remove(n) })
	}
	refuses(t, d, api.ErrShape, func() error { return d.Remove(0) })
}

// P42: to each place, counted without the one that is moved; it takes all below with it.
func TestMove(t *testing.T) {
	for _, c := range []struct {
		n, parent, at int
		want          string
	}{
		{1, 0, 0, "0 1 2 3 4 5"}, {1, 0, 1, "0 4 1 2 3 5"}, {1, 0, 2, "0 4 5 1 2 3"}, {4, 0, 0, "0 4 1 2 3 5"}, {4, 0, 1, "0 1 2 3 4 5"}, {4, 0, 2, "0 1 2 3 5 4"}, {5, 0, 0, "0 5 1 2 3 4"},
		{1, 4, 0, "0 4 1 2 3 5"}, {4, 1, 0, "0 1 4 2 3 5"}, {4, 1, 1, "0 1 2 4 3 5"}, {4, 1, 2, "0 1 2 3 4 5"}, {2, 0, 0, "0 2 1 3 4 5"}, {2, 0, 3, "0 1 3 4 5 2"}, {2, 1, 1, "0 1 3 2 4 5"}, {2, 1, 0, "0 1 2 3 4 5"}, {2, 3, 0, "0 1 3 2 4 5"}, {3, 5, 0, "0 1 2 4 5 3"},
	} {
		d := open(t, `<a><b k="1"><c/><d/></b><e/><f/></a>`)
		err := d.Move(c.n, c.parent, c.at)
		if err != nil || list(d.All()) != c.want || d.Parent(c.n) != c.parent || d.Kids(c.parent)[c.at] != c.n || d.Count() != 6 {
			t.Error(c, err, all(d))
		}
		if v, is := d.Attr(1, "k"); v != "1" || !is || d.Name(c.n) != string("abcdef"[c.n]) {
			t.Error(c, v, is)
		}
	}
}

// P42: Move's errors, and their order.
func TestMoveWrong(t *testing.T) {
	d := open(t, "<a><b><c/><d><e/></d></b><f/></a>")
	for _, c := range []struct {
		n, parent, at int
		err           error
	}{
		{-1, 0, 0, api.ErrNone}, {6, 0, 0, api.ErrNone}, {1, -1, 0, api.ErrNone}, {1, 6, 0, api.ErrNone}, {0, 6, 0, api.ErrNone}, {6, 6, -1, api.ErrNone}, {-1, -1, 0, api.ErrNone}, {1 << 40, 0, 0, api.ErrNone}, {1, -1 << 63, 0, api.ErrNone},
		{0, 0, 0, api.ErrShape}, {0, 1, 0, api.ErrShape}, {0, 4, -1, api.ErrShape}, {0, 5, 9, api.ErrShape},
		{1, 1, 0, api.ErrCycle}, {1, 2, 0, api.ErrCycle}, {1, 4, 0, api.ErrCycle}, {3, 4, 9, api.ErrCycle}, {5, 5, -1, api.ErrCycle}, {3, 3, 0, api.ErrCycle},
		{1, 0, -1, api.ErrBound}, {1, 0, 2, api.ErrBound}, {5, 0, 2, api.ErrBound}, {2, 0, 3, api.ErrBound}, {5, 1, 3, api.ErrBound}, {2, 1, 2, api.ErrBound}, {1, 5, 1, api.ErrBound}, {1, 5, -1, api.ErrBound}, {4, 3, 1, api.ErrBound}, {1, 0, 1<<63 - 1, api.ErrBound}, {1, 0, -1 << 63, api.ErrBound},
	} {
		refuses(t, d, c.err, func() error { return d.Move(c.n, c.parent, c.at) })
	}
}

// P42: ErrDeep where one of those below would lie too deep, behind ErrCycle and ErrBound.
func TestMoveDeep(t *testing.T) {
	d := open(t, "<a>"+chain(9)+"<x><y><z/></y><y/></x></a>") // 1 to 9, and 10 to 13
	for _, c := range []struct {
		n, parent, at int
		err           error
	}{
		{10, 7, 1, api.ErrDeep}, {10, 8, 0, api.ErrDeep}, {10, 9, 0, api.ErrDeep}, {10, 8, 2, api.ErrBound}, {10, 8, -1, api.ErrBound}, {11, 8, 0, api.ErrDeep}, {12, 9, 0, api.ErrDeep}, {13, 9, 0, api.ErrDeep}, {1, 13, 0, api.ErrDeep}, {1, 10, 0, api.ErrDeep}, {2, 11, 1, api.ErrDeep}, {1, 9, 1, api.ErrCycle},
	} {
		refuses(t, d, c.err, func() error { return d.Move(c.n, c.parent, c.at) })
	}
	for i, c := range [][3]int{{10, 6, 1}, {11, 7, 0}, {12, 8, 1}, {13, 8, 0}, {9, 8, 2}, {2, 0, 0}, {3, 0, 0}, {10, 0, 3}, {1, 10, 0}} {
		if err := d.Move(c[0], c[1], c[2]); err != nil {
			t.Error(i, err, all(d))
		}
	}
}

// P42: a new attribute behind all others; one that is there stays at its place.
func TestSet(t *testing.T) {
	d := open(t, `<a b="1" c="2"><d/></a>`)
	for _, c := range []struct {
		n                 int
		name, value, want string
	}{
		{0, "c", "3", `<a b="1" c="3"><d/></a>`}, {0, "a", "4", `<a b="1" c="3" a="4"><d/></a>`}, {0, "b", "", `<a b="" c="3" a="4"><d/></a>`}, {1, "b", "<&>\"", `<a b="" c="3" a="4"><d b="&lt;&amp;&gt;&quot;"/></a>`}, {1, "b", "~ ", `<a b="" c="3" a="4"><d b="~ "/></a>`},
	} {
		if err := d.Set(c.n, c.name, c.value); err != nil || text(d) != c.want {
			t.Error(c, err, text(d))
		}
		if v, is := d.Attr(c.n, c.name); v != c.value || !is {
			t.Error(c, v, is)
		}
	}
	if d.Unset(0, "c") != nil || text(d) != `<a b="" a="4"><d b="~ "/></a>` || d.Set(0, "c", "5") != nil || text(d) != `<a b="" a="4" c="5"><d b="~ "/></a>` {
		t.Error(text(d))
	}
	if d.Set(0, strings.Repeat("n", 12), strings.Repeat("v", 200)) != nil {
		t.Error(text(d))
	}
}

// P42: Set's errors, and their order.
func TestSetWrong(t *testing.T) {
	d := open(t, `<a b="1"><c/></a>`)
	long := strings.Repeat("v", 201)
	for _, c := range []struct {
		n           int
		name, value string
		err         error
	}{
		{-1, "b", "", api.ErrNone}, {2, "b", "", api.ErrNone}, {2, "B", "\n", api.ErrNone}, {1 << 40, "b", long, api.ErrNone},
		{0, "", "", api.ErrName}, {0, "B", "\n", api.ErrName}, {1, "0", "", api.ErrName}, {0, strings.Repeat("n", 13), long, api.ErrName}, {0, "b ", "", api.ErrName},
		{0, "b", "\n", api.ErrValue}, {0, "d", "\x1f", api.ErrValue}, {0, "d", "\x7f", api.ErrValue}, {1, "b", "é", api.ErrValue}, {1, "b", long, api.ErrValue},
	} {
		refuses(t, d, c.err, func() error { return d.Set(c.n, c.name, c.value) })
	}
}

// P42: ErrFull only where there are so many others, behind ErrName and ErrValue.
func TestSetFull(t *testing.T) {
	d := open(t, "<a><b/></a>")
	for i := range api.MaxAttrs {
		if err := d.Set(0, "k"+strconv.Itoa(i), ""); err != nil {
			t.Fatal(i, err)
		}
	}
	for _, c := range []struct {
		name, value string
		err         error
	}{{"x", "", api.ErrFull}, {"k12", "v", api.ErrFull}, {"X", "", api.ErrName}, {"x", "\n", api.ErrValue}, {"k3", "\n", api.ErrValue}} {
		refuses(t, d, c.err, func() error { return d.Set(0, c.name, c.value) })
	}
	for i := range api.MaxAttrs {
		if err := d.Set(0, "k"+strconv.Itoa(i), "v"+strconv.Itoa(i)); err != nil {
			t.Error(i, err)
		}
	}
	if d.Set(1, "x", "") != nil || d.Unset(0, "k5") != nil || d.Set(0, "x", "") != nil {
		t.Error(text(d))
	}
	refuses(t, d, api.ErrFull, func() error { return d.Set(0, "k5", "") })
	if s := text(d); !strings.HasSuffix(s, ` k4="v4" k6="v6" k7="v7" k8="v8" k9="v9" k10="v10" k11="v11" x=""><b x=""/></a>`) {
		t.Error(s)
	}
}

// P42: an attribute goes, the others keep their order.
func TestUnset(t *testing.T) {
	for name, want := range map[string]string{"b": `<a c="2" d="3"/>`, "c": `<a b="1" d="3"/>`, "d": `<a b="1" c="2"/>`} {
		d := open(t, `<a b="1" c="2" d="3"/>`)
		if err := d.Unset(0, name); err != nil || text(d) != want {
			t.Error(name, err, text(d))
		}
		if v, is := d.Attr(0, name); v != "" || is {
			t.Error(name, v, is)
		}
		refuses(t, d, api.ErrNone, func() error { return d.Unset(0, name) })
	}
	d := open(t, `<a b="1"><c d=""/></a>`)
	for n, name := range map[int]string{-1: "b", 0: "d", 1: "b", 2: "b", 1 << 40: "", -5: "B"} {
		refuses(t, d, api.ErrNone, func() error { return d.Unset(n, name) })
	}
	for _, name := range []string{"", "B", "b ", "\n", strings.Repeat("b", 1<<16)} {
		refuses(t, d, api.ErrNone, func() error { return d.Unset(0, name) })
	}
}

// A clone is as the document, with its numbers and the next one; no change of one of them shows in the other.
func TestClone(t *testing.T) {
	d := open(t, `<a b="1" c="2"><d><e/></d><f/></a>`)
	if n, err := d.Add(1, 0, "x"); n != 4 || err != nil || d.Remove(3) != nil {
		t.Fatal(n, err)
	}
	changes := []func(d *Doc) error{
		func(d *Doc) error { return d.Set(0, "b", "3") },
		func(d *Doc) error { return d.Set(0, "k", "4") },
		func(d *Doc) error { return d.Unset(0, "b") },
		func(d *Doc) error { return d.Move(2, 1, 0) },
		func(d *Doc) error { return d.Remove(1) },
		func(d *Doc) error { _, err := d.Add(1, 1, "y"); return err },
	}
	for i, change := range changes {
		for _, swap := range []bool{false, true} {
			a := d.Clone()
			b := a.Clone()
			if swap {
				a, b = b, a
			}
			was := all(d)
			if all(a) != was || all(b) != was {
				t.Fatal(i, all(a), all(b), "want", was)
			}
			if err := change(a); err != nil || all(a) == was || all(b) != was || all(d) != was {
				t.Error(i, err, all(a), all(b), "was", was)
			}
		}
	}
}
