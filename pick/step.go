package pick

import (
	"iter"
	"slices"
	"strings"

	"leadlight/doc"
	"leadlight/mark"
)

// What stands between two steps.
const (
	below      = " "
	rightBelow = " > "
)

// Kinds of a step's parts, by the mark ahead of each. The element's own has none, and stands first in each step, if only as an empty text.
const (
	element = 0
	id      = '#'
	class   = '.'
	attr    = '['
	marks   = "#.["
)

const (
	anyName  = "*"
	maxParts = 8 // of a step, the element's aside
)

// cut the last step off a text: what is ahead, what stands between (nothing, where no step is ahead), and the step.
func cut(text string) (ahead, link, step string) {
	i := strings.LastIndexByte(text, ' ')
	if i < 0 {
		return "", "", text
	}
	if ahead, ok := strings.CutSuffix(text[:i], " >"); ok {
		return ahead, rightBelow, text[i+1:]
	}
	return text[:i], below, text[i+1:]
}

// stepsOf a text, the last one first. A wrong text has wrong steps.
func stepsOf(text string) iter.Seq[string] {
	return func(yield func(step string) bool) {
		ahead, link, step := cut(text)
		for yield(step) && link != "" {
			ahead, link, step = cut(ahead)
		}
	}
}

// partsOf a step: the kind and the name of each.
func partsOf(step string) iter.Seq2[byte, string] {
	return func(yield func(kind byte, name string) bool) {
		kind, rest := byte(element), step
		for {
			i := strings.IndexAny(rest, marks)
			if i < 0 {
				yield(kind, nameIn(kind, rest))
				return
			}
			if !yield(kind, nameIn(kind, rest[:i])) {
				return
			}
			kind, rest = rest[i], rest[i+1:]
		}
	}
}

// nameIn a part behind its mark. Of an attribute's that is not closed it is empty: no name.
func nameIn(kind byte, rest string) string {
	if kind != attr {
		return rest
	}
	name, closed := strings.CutSuffix(rest, "]")
	if !closed {
		return ""
	}
	return name
}

func isStep(step string) bool {
	count := 0
	for kind, name := range partsOf(step) {
		if kind != element {
			count++
		}
		if count > maxParts || !isPart(kind, name) {
			return false
		}
	}
	return step != ""
}

func isPart(kind byte, name string) bool {
	return kind == element && fitsAny(name) || mark.IsName(name)
}

// fitsAny tells whether an element's part asks for no name.
func fitsAny(name string) bool { return name == "" || name == anyName }

func weightOf(kind byte, name string) int {
	switch {
	case kind == id:
		return 100
	case kind == class || kind == attr:
		return 10
	case fitsAny(name):
		return 0
	}
	return 1
}

// stepFits tells whether a step fits an element. Each element has a name: what has none is not in the document.
func stepFits(step string, d *doc.Doc, n int) bool {
	if d.Name(n) == "" {
		return false
	}
	for kind, name := range partsOf(step) {
		if !partFits(kind, name, d, n) {
			return false
		}
	}
	return true
}

func partFits(kind byte, name string, d *doc.Doc, n int) bool {
	switch kind {
	case id:
		value, _ := d.Attr(n, "id")
		return value == name
	case class:
		value, _ := d.Attr(n, "class")
		return slices.Contains(strings.Split(value, " "), name)
	case attr:
		_, ok := d.Attr(n, name)
		return ok
	}
	return fitsAny(name) || d.Name(n) == name
}
