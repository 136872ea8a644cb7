package move

import (
	"slices"
	"strings"

	"leadlight/api"
	"leadlight/frac"
)

// kind of a move in a text: how many words stand behind its name, and what makes a move of them.
type kind struct {
	words int
	read  func(words []string) (Move, error)
}

// Read a move. The whole text is read ahead of the first Then, because an error of the text is told ahead of Then's.
func Read(s string) (Move, error) {
	list, err := readList(s)
	if err != nil {
		return Move{}, err
	}
	m := One()
	for _, n := range slices.Backward(list) {
		if m, err = Then(m, n); err != nil {
			return Move{}, err
		}
	}
	return m, nil
}

func readList(s string) ([]Move, error) {
	if s == "" {
		return nil, nil
	}
	var list []Move
	for words := strings.Split(s, " "); len(words) > 0; {
		k, ok := kindOf(words[0])
		words = words[1:]
		if !ok || len(words) < k.words {
			return nil, api.ErrText
		}
		m, err := k.read(words[:k.words])
		if err != nil {
			return nil, err
		}
		list, words = append(list, m), words[k.words:]
	}
	return list, nil
}

func kindOf(name string) (kind, bool) {
	switch name {
	case "move":
		return kind{2, ofFracs(shift)}, true
	case "scale":
		return kind{2, ofFracs(scale)}, true
	case "turn":
		return kind{1, turn}, true
	case "skew":
		return kind{1, ofFracs(skew)}, true
	}
	return kind{}, false
}

// ofFracs keeps how a move is made of fractions, and reads them ahead of it.
func ofFracs(how func(l []api.Frac) Move) func(words []string) (Move, error) {
	return func(words []string) (Move, error) {
		var l []api.Frac
		for _, s := range words {
			a, err := frac.Read(s)
			if err != nil {
				return Move{}, err
			}
			l = append(l, a)
		}
		return how(l), nil
	}
}

func shift(l []api.Frac) Move {
	m := One()
	m.E, m.F = l[0], l[1]
	return m
}

func scale(l []api.Frac) Move {
	m := One()
	m.A, m.D = l[0], l[1]
	return m
}

func skew(l []api.Frac) Move {
	m := One()
	m.C = l[0]
	return m
}

// turn by quarters: X's way goes to (cos, sin), Y's to (-sin, cos).
func turn(words []string) (Move, error) {
	var cos, sin int
	switch words[0] {
	case "0":
		cos = 1
	case "1":
		sin = 1
	case "2":
		cos = -1
	case "3":
		sin = -1
	default:
		return Move{}, api.ErrText
	}
	m := One()
	m.A, m.B, m.C, m.D = whole(cos), whole(sin), whole(-sin), whole(cos)
	return m, nil
}
