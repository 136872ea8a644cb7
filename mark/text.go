package mark

import (
	"strings"

	"leadlight/api"
)

// marks are the bytes that do not stand for themselves in a value's text.
const marks = `<>&"`

// Text of a node.
func Text(n Node) (string, error) {
	if err := Check(n); err != nil {
		return "", err
	}
	var b strings.Builder
	writeNode(&b, n)
	if b.Len() > api.MaxText {
		return "", api.ErrBound
	}
	return b.String(), nil
}

func writeNode(b *strings.Builder, n Node) {
	b.WriteString("<" + n.Name)
	for _, a := range n.Attrs {
		b.WriteString(" " + a.Name + `="`)
		writeValue(b, a.Value)
		b.WriteString(`"`)
	}
	if len(n.Kids) == 0 {
		b.WriteString("/>")
		return
	}
	b.WriteString(">")
	for _, kid := range n.Kids {
		writeNode(b, kid)
	}
	b.WriteString("</" + n.Name + ">")
}

func writeValue(b *strings.Builder, s string) {
	for i := 0; i < len(s); i++ {
		if word := wordOf(s[i]); word != "" {
			b.WriteString(word)
		} else {
			b.WriteByte(s[i])
		}
	}
}

// wordOf one of the marks; else none.
func wordOf(c byte) string {
	switch c {
	case '<':
		return "&lt;"
	case '>':
		return "&gt;"
	case '&':
		return "&amp;"
	case '"':
		return "&quot;"
	}
	return ""
}
