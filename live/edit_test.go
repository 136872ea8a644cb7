package live

import (
	"math"
	"math/rand/v2"
	"strings"
	"testing"

	"leadlight/api"
	"leadlight/doc"
	"leadlight/mark"
)

func read(t testing.TB, s string) mark.Node {
	t.Helper()
	n, err := mark.Read(s)
	if err != nil {
		t.Fatal(s, err)
	}
	return n
}

func open(t testing.TB, s string) *doc.Doc {
	t.Helper()
	d, err := doc.New(read(t, s))
	if err != nil {
		t.Fatal(s, err)
	}
	return d
}

// text of a node; a fault of it is part of what is told.
func text(n mark.Node) string {
	s, err := mark.Text(n)
	if err != nil {
		return err.Error()
	}
	return s
}

// P100: each kind, and which of the fields it goes by; the others are any.
func TestApply(t *testing.T) {
	for i, c := range []struct {
		e    Edit
		want string
	}{
		{Edit{Kind: "add", N: 1, Name: "x"}, `<a><b k="1"><x/><c/><d/></b><e/></a>`},
		{Edit{Kind: "add", N: 1, M: 99, At: 2, Name: "x", Value: "\n"}, `<a><b k="1"><c/><d/><x/></b><e/></a>`},
		{Edit{Kind: "add", At: 1, Name: "x"}, `<a><b k="1"><c/><d/></b><x/><e/></a>`},
		{Edit{Kind: "remove", N: 1}, `<a><e/></a>`},
		{Edit{Kind: "remove", N: 2, M: 99, At: 99, Name: "\n", Value: "\n"}, `<a><b k="1"><d/></b><e/></a>`},
		{Edit{Kind: "move", N: 4, M: 1, At: 1}, `<a><b k="1"><c/><e/><d/></b></a>`},
		{Edit{Kind: "move", N: 2, At: 2, Name: "\n", Value: "\n"}, `<a><b k="1"><d/></b><e/><c/></a>`},
		{Edit{Kind: "move", N: 1, At: 1}, `<a><e/><b k="1"><c/><d/></b></a>`},
		{Edit{Kind: "set", N: 1, Name: "k", Value: "2"}, `<a><b k="2"><c/><d/></b><e/></a>`},
		{Edit{Kind: "set", N: 1, M: 99, At: 99, Name: "l", Value: "<"}, `<a><b k="1" l="&lt;"><c/><d/></b><e/></a>`},
		{Edit{Kind: "set", Name: "l"}, `<a l=""><b k="1"><c/><d/></b><e/></a>`},
		{Edit{Kind: "unset", N: 1, Name: "k"}, `<a><b><c/><d/></b><e/></a>`},
		{Edit{Kind: "unset", N: 1, M: 99, At: 99, Name: "k", Value: "\n"}, `<a><b><c/><d/></b><e/></a>`},
		{Edit{Kind: "sheet"}, `<a><b k="1"><c/><d/></b><e/></a>`},
		{Edit{Kind: "sheet", N: 99, M: 99, At: 99, Name: "\n", Value: "what"}, `<a><b k="1"><c/><d/></b><e/></a>`},
	} {
		d := open(t, `<a><b k="1"><c/><d/></b><e/></a>`)
		if err := Apply(d, c.e); err != nil || text(d.Node()) != c.want {
			t.Error(i, err, text(d.Node()))
		}
	}
}

// P100: doc's errors, bare; another Kind; nothing is changed.
func TestApplyWrong(t *testing.T) {
	long := strings.Repeat("v", api.MaxValue+1)
	for i, c := range []struct {
		e   Edit
		err error
	}{
		{Edit{Kind: "add", N: 5, Name: "x"}, api.ErrNone}, {Edit{Kind: "add", N: -1, At: -1}, api.ErrNone}, {Edit{Kind: "add", N: 1, At: 3}, api.ErrBound}, {Edit{Kind: "add", At: -1, Name: "x"}, api.ErrBound}, {Edit{Kind: "add"}, api.ErrName}, {Edit{Kind: "add", Value: "x"}, api.ErrName}, {Edit{Kind: "add", Name: "X"}, api.ErrName},
		{Edit{Kind: "remove", N: 5}, api.ErrNone}, {Edit{Kind: "remove", N: math.MinInt}, api.ErrNone}, {Edit{Kind: "remove"}, api.ErrShape},
		{Edit{Kind: "move", N: 5}, api.ErrNone}, {Edit{Kind: "move", N: 1, M: math.MaxInt}, api.ErrNone}, {Edit{Kind: "move"}, api.ErrShape}, {Edit{Kind: "move", M: 4}, api.ErrShape}, {Edit{Kind: "move", N: 1, M: 3, At: -1}, api.ErrCycle}, {Edit{Kind: "move", N: 1, At: 2}, api.ErrBound}, {Edit{Kind: "move", N: 4, M: 2, At: -1}, api.ErrBound},
		{Edit{Kind: "set", N: 5, Name: "k"}, api.ErrNone}, {Edit{Kind: "set", N: 1}, api.ErrName}, {Edit{Kind: "set", N: 1, Name: "K", Value: "\n"}, api.ErrName}, {Edit{Kind: "set", Name: "k", Value: "\n"}, api.ErrValue}, {Edit{Kind: "set", Name: "k", Value: long}, api.ErrValue},
		{Edit{Kind: "unset", N: 5, Name: "k"}, api.ErrNone}, {Edit{Kind: "unset", N: 2, Name: "k"}, api.ErrNone}, {Edit{Kind: "unset", N: 1, Name: "K"}, api.ErrNone}, {Edit{Kind: "unset", N: 1}, api.ErrNone},
		{Edit{}, api.ErrName}, {Edit{Kind: "Add", Name: "x"}, api.ErrName}, {Edit{Kind: "add ", Name: "x"}, api.ErrName}, {Edit{Kind: " remove", N: 1}, api.ErrName}, {Edit{Kind: "sheets"}, api.ErrName}, {Edit{Kind: "unSet", N: 1, Name: "k"}, api.ErrName}, {Edit{Kind: "move\x00", N: 1}, api.ErrName}, {Edit{Kind: "sheet\n"}, api.ErrName}, {Edit{Kind: "ad", Name: "x"}, api.ErrName}, {Edit{Name: "set"}, api.ErrName},
	} {
		d := open(t, `<a><b k="1"><c/><d/></b><e/></a>`)
		if err := Apply(d, c.e); err != c.err || text(d.Node()) != `<a><b k="1"><c/><d/></b><e/></a>` {
			t.Error(i, c.e, err, text(d.Node()))
		}
		if n, err := d.Add(0, 0, "x"); n != 5 || err != nil {
			t.Error(i, c.e, n, err)
		}
		if err := Apply(nil, c.e); err != api.ErrShape {
			t.Error(i, c.e, err)
		}
	}
	for _, kind := range []string{"add", "remove", "move", "set", "unset", "sheet"} {
		if err := Apply(nil, Edit{Kind: kind, N: 1, Name: "x"}); err != api.ErrShape {
			t.Error(kind, err)
		}
	}
}

// P100: what doc refuses where it is full or deep.
func TestApplyMost(t *testing.T) {
	deep := open(t, strings.Repeat("<a>", api.MaxDeep)+strings.Repeat("</a>", api.MaxDeep))
	full := open(t, "<a>"+strings.Repeat("<b/>", api.MaxNodes-1)+"</a>")
	for i := range api.MaxAttrs {
		if err := Apply(full, Edit{Kind: "set", Name: "k" + string(rune('a'+i))}); err != nil {
			t.Fatal(i, err)
		}
	}
	for i, c := range []struct {
		d   *doc.Doc
		e   Edit
		err error
	}{
		{deep, Edit{Kind: "add", N: 9, Name: "x"}, api.ErrDeep}, {full, Edit{Kind: "add", Name: "x"}, api.ErrFull}, {full, Edit{Kind: "set", Name: "x"}, api.ErrFull}, {full, Edit{Kind: "set", Name: "ka", Value: "1"}, nil},
		{deep, Edit{Kind: "add", N: 0, Name: "x"}, nil}, {deep, Edit{Kind: "add", N: 10, Name: "x"}, nil}, {deep, Edit{Kind: "move", N: 10, M: 8}, api.ErrDeep}, {deep, Edit{Kind: "move", N: 10, M: 7}, nil},
	} {
		if err := Apply(c.d, c.e); err != c.err {
			t.Error(i, err)
		}
	}
}

// applied by doc's own calls.
func applied(d *doc.Doc, e Edit) error {
	calls := map[string]func() error{
		"add":    func() error { _, err := d.Add(e.N, e.At, e.Name); return err },
		"remove": func() error { return d.Remove(e.N) },
		"move":   func() error { return d.Move(e.N, e.M, e.At) },
		"set":    func() error { return d.Set(e.N, e.Name, e.Value) },
		"unset":  func() error { return d.Unset(e.N, e.Name) },
		"sheet":  func() error { return nil },
	}
	if call, ok := calls[e.Kind]; ok {
		return call()
	}
	return api.ErrName
}

// P100: many edits against doc's own calls.
func TestApplyAsDoc(t *testing.T) {
	r := some{rand.New(rand.NewPCG(10, 100))}
	seen := map[error]int{}
	for range 200 {
		a, b := open(t, beginning), open(t, beginning)
		for range 60 {
			e := r.edit(14)
			err := Apply(a, e)
			if want := applied(b, e); err != want || text(a.Node()) != text(b.Node()) {
				t.Fatal(e, err, want, text(a.Node()), text(b.Node()))
			}
			seen[err]++
		}
	}
	for _, err := range []error{nil, api.ErrNone, api.ErrShape, api.ErrCycle, api.ErrBound, api.ErrName, api.ErrValue} {
		if seen[err] < 20 {
			t.Error("too few:", err, seen[err])
		}
	}
}
