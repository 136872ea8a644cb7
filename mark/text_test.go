package mark

import (
	"regexp"
	"strings"
	"testing"

	"leadlight/api"
)

// P30, P31: how a node is written, and P33: that it is read so.
func TestText(t *testing.T) {
	for want, n := range map[string]Node{
		`<a/>`: el("a"), `<a-1/>`: el("a-1"), `<a b=""/>`: with(el("a"), "b", ""), `<a b="1" c="2"/>`: with(el("a"), "b", "1", "c", "2"), `<a c="2" b="1"/>`: with(el("a"), "c", "2", "b", "1"),
		`<a><b/></a>`: el("a", el("b")), `<a><b/><b/></a>`: el("a", el("b"), el("b")), `<a><a><a/></a><b/></a>`: el("a", el("a", el("a")), el("b")),
		`<a k="v"><b k="w"/><c><d/></c></a>`: with(el("a", with(el("b"), "k", "w"), el("c", el("d"))), "k", "v"),
		`<a b="&lt;"/>`:                      with(el("a"), "b", "<"), `<a b="&gt;"/>`: with(el("a"), "b", ">"), `<a b="&amp;"/>`: with(el("a"), "b", "&"), `<a b="&quot;"/>`: with(el("a"), "b", "\""),
		`<a b="&lt;&lt;x&gt;&amp;&quot;"/>`: with(el("a"), "b", "<<x>&\""), `<a b="&amp;lt;"/>`: with(el("a"), "b", "&lt;"), `<a b="&amp;amp;amp;"/>`: with(el("a"), "b", "&amp;amp;"), `<a b="&amp;apos;"/>`: with(el("a"), "b", "&apos;"), `<a b="&amp;&lt;;"/>`: with(el("a"), "b", "&<;"),
		`<a b=" '=/ !~ "/>`: with(el("a"), "b", " '=/ !~ "), `<a b="/" c="="/>`: with(el("a"), "b", "/", "c", "="),
	} {
		if s, err := Text(n); s != want || err != nil {
			t.Error(s, err, "want", want)
		}
		if x, err := Read(want); !same(x, n) || err != nil {
			t.Error(want, x, err)
		}
	}
}

// longText is a node whose text has so many bytes, from 2,000 on: values of 200 bytes in rows of children, and one to fill up.
func longText(bytes int) Node {
	full := with(el("b"), "k", strings.Repeat("v", 200)) // 209 bytes
	n := el("a")                                         // 7 bytes with children
	left := bytes - 7
	for left > 418 {
		n.Kids = append(n.Kids, full)
		left -= 209
	}
	half := left / 2
	return el("a", append(n.Kids, with(el("b"), "k", strings.Repeat("v", half-9)), with(el("b"), "k", strings.Repeat("v", left-half-9)))...)
}

// P31, P32: as many bytes as a text may have, and one more: ErrBound, bare.
func TestTextBound(t *testing.T) {
	for bytes := api.MaxText - 3; bytes <= api.MaxText+3; bytes++ {
		n := longText(bytes)
		if err := Check(n); err != nil {
			t.Fatal(bytes, err)
		}
		var b strings.Builder
		writeNode(&b, n)
		if b.Len() != bytes {
			t.Fatal(bytes, b.Len())
		}
		s, e1 := Text(n)
		x, e2 := Read(b.String())
		if bytes <= api.MaxText {
			if s != b.String() || !same(x, n) || e1 != nil || e2 != nil {
				t.Error(bytes, len(s), e1, e2)
			}
		} else if s != "" || !none(x) || e1 != api.ErrBound || e2 != api.ErrBound {
			t.Error(bytes, len(s), e1, e2)
		}
	}
}

// P31: the bound is of the text, with its words for marks; Check's errors are ahead of it.
func TestTextTooLong(t *testing.T) {
	words := el("a")
	for range 9 {
		words.Kids = append(words.Kids, with(el("b"), "k", strings.Repeat("\"", 200)))
	}
	if s, err := Text(words); s != "" || err != api.ErrBound {
		t.Error(len(s), err)
	}
	words.Kids[8].Attrs[0].Value = strings.Repeat("v", 10)
	if s, err := Text(words); len(s) != 7+8*(9+1200)+19 || err != nil {
		t.Error(len(s), err)
	}
	most := plenty(12)
	for i := range most.Attrs {
		most.Attrs[i].Value = strings.Repeat("&", 200)
	}
	all := el("a")
	for range 99 {
		all.Kids = append(all.Kids, most)
	}
	if s, err := Text(all); s != "" || err != api.ErrBound || Check(all) != nil {
		t.Error(len(s), err)
	}
	all.Kids = append(all.Kids, most)
	wrong(t, fault{all, 100, api.ErrFull})
	long := longText(api.MaxText + 1)
	wrong(t, fault{el("a", append(long.Kids, el("A"))...), len(long.Kids) + 1, api.ErrName})
}

// maker of nodes: the same ones each time.
type maker struct{ state uint32 }

func (m *maker) below(n int) int {
	m.state = m.state*1664525 + 1013904223
	return int(m.state>>8) % n
}

func (m *maker) word(bytes string, least, most int) string {
	s := ""
	for range least + m.below(most-least+1) {
		s += string(bytes[m.below(len(bytes))])
	}
	return s
}

func (m *maker) node(deep int) Node {
	n := el("x" + m.word("abz059-", 0, 11))
	for i := range m.below(5) {
		n = with(n, string("abcde"[i])+m.word("az09-", 0, 11), m.word("<>&\"'=/ ;ltgampquo~", 0, 20))
	}
	for deep < api.MaxDeep && m.below(3) > 0 {
		n.Kids = append(n.Kids, m.node(deep+1+m.below(3)))
	}
	return n
}

// leaf of a text, as it is written.
var leaf = regexp.MustCompile(`<([a-z0-9-]+)((?: [a-z0-9-]+="[^"]*")*)/>`)

// P33: a node is read as it was written, and written as it was read.
func TestReadAsWritten(t *testing.T) {
	m := maker{}
	deepest, kept := 0, 0
	for range 4000 {
		n := m.node(1)
		s, err := Text(n)
		if err != nil {
			if !told(err, api.ErrFull, api.MaxNodes) && err != api.ErrBound {
				t.Fatal(n, err)
			}
			continue
		}
		kept++
		deepest = max(deepest, strings.Count(s, "</"))
		x, err := Read(s)
		if !same(x, n) || err != nil {
			t.Fatal(s, x, err)
		}
		if again, err := Text(x); again != s || err != nil {
			t.Fatal(s, again, err)
		}
		open := leaf.ReplaceAllString(s, "<$1$2></$1>")
		if x, err := Read(open); len(open) <= api.MaxText && (!same(x, n) || err != nil) {
			t.Fatal(open, x, err)
		}
	}
	if kept < 2000 || deepest < 5 {
		t.Error("too few or too flat:", kept, deepest)
	}
}
