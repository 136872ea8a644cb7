package script

import (
	"strconv"
	"strings"

	"leadlight/api"
)

// maxDigits of a number in a line.
const maxDigits = 7

// The kinds of a command's parts, as its form names them.
const (
	numberPart = 'N'
	namePart   = 'W' // up to the next blank
	textPart   = 'T' // all behind the blank
)

// command: the kinds of its parts, in their order, and what it does.
type command struct {
	form string
	do   func(parts) (string, error)
}

// parts of a line, behind its command.
type parts struct {
	numbers    []int // as many as the form names
	name, text string
}

// commands by their words, each done by the player.
func (p *player) commands() map[string]command {
	return map[string]command{
		"open":   {"T", p.open},
		"sheet":  {"T", p.setSheet},
		"add":    {"NNW", p.add},
		"remove": {"N", p.remove},
		"move":   {"NNN", p.move},
		"set":    {"NWT", p.set},
		"unset":  {"NW", p.unset},
		"show":   {"", p.show},
		"text":   {"", p.text},
		"find":   {"T", p.find},
		"style":  {"NW", p.styleOf},
		"pieces": {"", p.pieces},
		"count":  {"", p.count},
	}
}

// readLine: its command, and the parts behind it.
func readLine(commands map[string]command, line string) (command, parts, error) {
	if line == "sheet" {
		line = "sheet " // the one text that may be left out with its blank
	}
	word, rest, more := strings.Cut(line, " ")
	c, ok := commands[word]
	if !ok {
		return command{}, parts{}, api.ErrText
	}
	l, ok := readParts(c.form, rest, more)
	if !ok {
		return command{}, parts{}, api.ErrText
	}
	return c, l, nil
}

// readParts of what is behind a blank; more: there is one, so that an empty part is a part, too.
func readParts(form, rest string, more bool) (parts, bool) {
	var l parts
	for _, kind := range form {
		if !more {
			return parts{}, false
		}
		if kind == textPart {
			l.text, more = rest, false
			continue
		}
		var word string
		word, rest, more = strings.Cut(rest, " ")
		if kind == namePart {
			l.name = word
			continue
		}
		n, ok := readNumber(word)
		if !ok {
			return parts{}, false
		}
		l.numbers = append(l.numbers, n)
	}
	return l, !more
}

// readNumber of decimal digits, as it would be written.
func readNumber(s string) (int, bool) {
	if len(s) > maxDigits {
		return 0, false
	}
	n, err := strconv.Atoi(s)
	if err != nil || n < 0 || strconv.Itoa(n) != s {
		return 0, false
	}
	return n, true
}
