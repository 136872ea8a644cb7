package style

import (
	"strings"

	"leadlight/api"
	"leadlight/pick"
)

// Read a sheet. All lines are read ahead of their count: a wrong one is told first, also where it stands behind too many.
func Read(s string) ([]Rule, error) {
	if len(s) > api.MaxText {
		return nil, api.ErrBound
	}
	var l []Rule
	for at := 0; s != ""; at++ {
		line, rest, ended := strings.Cut(s, "\n")
		r, ok := readRule(line)
		if !ended || !ok {
			return nil, &api.Fault{At: at, Err: api.ErrText}
		}
		l = append(l, r)
		s = rest
	}
	if len(l) > api.MaxRules {
		return nil, api.ErrFull
	}
	return l, nil
}

// readRule of a line without its break. No part holds a brace or a colon, so the first of each is the line's own.
func readRule(line string) (Rule, bool) {
	where, rest, opened := strings.Cut(line, " { ")
	rest, closed := strings.CutSuffix(rest, " }")
	name, value, parted := strings.Cut(rest, ": ")
	if !opened || !closed || !parted || !isName(name) || !isValue(value) {
		return Rule{}, false
	}
	p, err := pick.Read(where)
	if err != nil {
		return Rule{}, false
	}
	return Rule{Where: p, Name: name, Value: value}, true
}

func isValue(s string) bool {
	if s == "" || len(s) > api.MaxName {
		return false
	}
	return !strings.ContainsFunc(s, func(c rune) bool {
		return !('a' <= c && c <= 'z' || '0' <= c && c <= '9' || c == '-')
	})
}
