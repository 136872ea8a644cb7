package mark

import (
	"strings"

	"leadlight/api"
)

// between are the bytes that end a name in a text. Other ones that no name may have are told by Check, behind the text's own error.
const between = ` ="<>/`

// Read a node.
func Read(s string) (Node, error) {
	if len(s) > api.MaxText {
		return Node{}, api.ErrBound
	}
	r := reader{rest: s}
	n, ok := r.element()
	if !ok || r.rest != "" {
		return Node{}, api.ErrText
	}
	if err := Check(n); err != nil {
		return Node{}, err
	}
	return n, nil
}

// reader of a text: it goes on by what it takes off the rest. What it answers behind a false is of no use, nor is its rest.
type reader struct{ rest string }

// skip a word, if it is next.
func (r *reader) skip(word string) bool {
	rest, ok := strings.CutPrefix(r.rest, word)
	r.rest = rest
	return ok
}

// take all bytes that fit, up to the first one that does not.
func (r *reader) take(fits func(c byte) bool) string {
	i := 0
	for i < len(r.rest) && fits(r.rest[i]) {
		i++
	}
	taken := r.rest[:i]
	r.rest = r.rest[i:]
	return taken
}

// noneOf keeps bytes that do not fit.
func noneOf(ends string) func(c byte) bool {
	return func(c byte) bool { return strings.IndexByte(ends, c) < 0 }
}

func (r *reader) element() (Node, bool) {
	if !r.skip("<") {
		return Node{}, false
	}
	n := Node{Name: r.take(noneOf(between))}
	if n.Name == "" || !r.attrs(&n) {
		return Node{}, false
	}
	if r.skip("/>") {
		return n, true
	}
	ok := r.skip(">") && r.kids(&n) && r.skip("</"+n.Name+">")
	return n, ok
}

// attrs of a node: each one has its blank ahead, so a blank promises one.
func (r *reader) attrs(n *Node) bool {
	for r.skip(" ") {
		name := r.take(noneOf(between))
		if name == "" || !r.skip(`="`) {
			return false
		}
		value, ok := r.value()
		if !ok {
			return false
		}
		n.Attrs = append(n.Attrs, api.Attr{Name: name, Value: value})
	}
	return true
}

// value, with the mark that ends it.
func (r *reader) value() (string, bool) {
	var b strings.Builder
	for {
		b.WriteString(r.take(noneOf(marks)))
		if r.skip(`"`) {
			return b.String(), true
		}
		c, ok := r.mark()
		if !ok {
			return "", false
		}
		b.WriteByte(c)
	}
}

// mark that a word stands for.
func (r *reader) mark() (byte, bool) {
	for i := 0; i < len(marks); i++ {
		if r.skip(wordOf(marks[i])) {
			return marks[i], true
		}
	}
	return 0, false
}

// kids of a node, up to what is no element's beginning.
func (r *reader) kids(n *Node) bool {
	for strings.HasPrefix(r.rest, "<") && !strings.HasPrefix(r.rest, "</") {
		kid, ok := r.element()
		if !ok {
			return false
		}
		n.Kids = append(n.Kids, kid)
	}
	return true
}
