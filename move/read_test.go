package move

import (
	"regexp"
	"strings"
	"testing"

	"leadlight/api"
	"leadlight/frac"
)

// P21: each kind alone, and the last one first.
func TestRead(t *testing.T) {
	for s, want := range map[string]Move{
		"": One(), "move 3 -4": of(1, 0, 0, 1, 3, -4), "scale 3 -4": of(3, 0, 0, -4, 0, 0), "skew 5": of(1, 0, 5, 1, 0, 0), "skew -1/2": {f(1, 1), f(0, 1), f(-1, 2), f(1, 1), f(0, 1), f(0, 1)},
		"turn 0": One(), "turn 1": of(0, 1, -1, 0, 0, 0), "turn 2": of(-1, 0, 0, -1, 0, 0), "turn 3": of(0, -1, 1, 0, 0, 0),
		"scale 0 0": of(0, 0, 0, 0, 0, 0), "move 1 0 turn 1": of(0, 1, -1, 0, 1, 0), "turn 1 move 1 0": of(0, 1, -1, 0, 0, 1),
		"scale 2 3 move 1 1": of(2, 0, 0, 3, 2, 3), "move 1 1 scale 2 3": of(2, 0, 0, 3, 1, 1), "skew 2 move 1 1": of(1, 0, 2, 1, 3, 1),
		"skew 2 scale 3 5 turn 1 move 1 1": of(10, 5, -3, 0, 7, 5), "move 1 2 move 3 4 move 5 6": of(1, 0, 0, 1, 9, 12),
		"scale 1073741824 -1073741824": of(most, 0, 0, -most, 0, 0), "scale 1 0 turn 2 turn 2": of(1, 0, 0, 0, 0, 0),
	} {
		if m, err := Read(s); m != want || err != nil {
			t.Errorf("%q: %v %v, want %v", s, m, err, want)
		}
	}
}

// P21, P3: what is wrong first in the text is told, then Then's; bare, with no move beside it.
func TestReadWrong(t *testing.T) {
	for s, want := range map[string]error{
		" ": api.ErrText, "  ": api.ErrText, "\t": api.ErrText, "\x00": api.ErrText, "1": api.ErrText, "one": api.ErrText, "Move 1 2": api.ErrText, "MOVE 1 2": api.ErrText, "moves 1 2": api.ErrText, "move1 2": api.ErrText,
		"move": api.ErrText, "move ": api.ErrText, "move 1": api.ErrText, "move 1 ": api.ErrText, "move 1 2 ": api.ErrText, " move 1 2": api.ErrText, "move  1 2": api.ErrText, "move 1  2": api.ErrText, "move 1\t2": api.ErrText, "move 1 2\n": api.ErrText, "move 1,2": api.ErrText, "move 1 2  turn 1": api.ErrText, "move 1 2 3": api.ErrText,
		"scale": api.ErrText, "scale 1": api.ErrText, "scale 1 x": api.ErrText, "scale x 1": api.ErrText, "scale 01 1": api.ErrText, "scale 1/1 1": api.ErrText, "scale -0 1": api.ErrText, "scale +1 1": api.ErrText, "scale 1.5 1": api.ErrText, "scale 99999999999 1": api.ErrText,
		"skew": api.ErrText, "skew ": api.ErrText, "skew 1 2": api.ErrText, "skew x": api.ErrText,
		"turn": api.ErrText, "turn ": api.ErrText, "turn 4": api.ErrText, "turn -1": api.ErrText, "turn 01": api.ErrText, "turn 1/2": api.ErrText, "turn 2/4": api.ErrText, "turn 2147483648": api.ErrText, "turn 1 1": api.ErrText, "turn x": api.ErrText,

		"scale 2/4 1": api.ErrShape, "scale 1 2/4": api.ErrShape, "skew 0/3": api.ErrShape, "skew 1/0": api.ErrShape, "move 1 1073741825": api.ErrBound, "move -1073741825 1": api.ErrBound, "skew 1/1073741825": api.ErrBound,

		"move 2/4 x": api.ErrShape, "move x 2/4": api.ErrText, "move 1073741825 2/4": api.ErrBound, "move 2/4 1073741825": api.ErrShape, "move 2/4 1 what": api.ErrShape, "what move 2/4 1": api.ErrText, "skew 2/4 skew x": api.ErrShape, "skew x skew 2/4": api.ErrText, "turn 4 skew 2/4": api.ErrText, "skew 2/4 turn 4": api.ErrShape,

		"move 2/4": api.ErrText, "scale 1073741825": api.ErrText, "skew 2/4 move 1": api.ErrShape, "move 1 1 scale 2/4": api.ErrText, "skew 1073741825 turn": api.ErrBound,

		"scale 1073741824 1 scale 2 1": api.ErrBound, "move 1073741824 0 move 1 0": api.ErrBound, "move 0 -1073741824 move 0 -1": api.ErrBound,
		"scale 1073741824 1 scale 2 1 what": api.ErrText, "scale 1073741824 1 scale 2 1 skew 2/4": api.ErrShape, "what scale 1073741824 1 scale 2 1": api.ErrText, "scale 1073741824 1 scale 2 1 move 1": api.ErrText,
	} {
		if m, err := Read(s); m != (Move{}) || err != want {
			t.Errorf("%q: %v %v, want %v", s, m, err, want)
		}
	}
}

// P21: the last one is first, so what is too great at the end is not mended by what stands ahead of it.
func TestReadFromTheEnd(t *testing.T) {
	half := "scale 1/2 1 "
	if m, err := Read("scale 2 1 scale 1073741824 1 " + half); err != api.ErrText {
		t.Error(m, err)
	}
	if m, err := Read("scale 2 1 scale 1073741824 1 scale 1/2 1"); m != of(most, 0, 0, 1, 0, 0) || err != nil {
		t.Error(m, err)
	}
	if m, err := Read(half + "scale 1073741824 1 scale 2 1"); err != api.ErrBound {
		t.Error(m, err)
	}
}

// one move of a text, whole, with words in the fractions' places and a blank at its end.
var one = regexp.MustCompile(`^(?:(move|scale) ([^ ]*) ([^ ]*)|(turn) ([0-3])|(skew) ([^ ]*)) `)

// plainRead cuts one move after another off the text; it does not tell which error comes first.
func plainRead(s string) (list []Move, ok bool) {
	for rest := s + " "; rest != ""; {
		w := one.FindStringSubmatch(rest)
		if w == nil {
			return nil, false
		}
		m := One()
		name := w[1] + w[4] + w[6]
		if name == "turn" {
			m = map[string]Move{"0": m, "1": of(0, 1, -1, 0, 0, 0), "2": of(-1, 0, 0, -1, 0, 0), "3": of(0, -1, 1, 0, 0, 0)}[w[5]]
		}
		x, e1 := frac.Read(w[2] + w[7])
		y, e2 := frac.Read(w[3])
		if name != "turn" && e1 != nil || w[1] != "" && e2 != nil {
			return nil, false
		}
		switch name {
		case "move":
			m.E, m.F = x, y
		case "scale":
			m.A, m.D = x, y
		case "skew":
			m.C = x
		}
		list, rest = append(list, m), rest[len(w[0]):]
	}
	return list, true
}

// P21, P1: all short lists of words, against the points that each move takes in its turn.
func TestReadAllShort(t *testing.T) {
	words := []string{"", "move", "scale", "turn", "skew", "1", "-2/3", "3", "2/4", "x"}
	read := 0
	var each func(list []string)
	each = func(list []string) {
		if len(list) > 0 && !(len(list) == 1 && list[0] == "") {
			s := strings.Join(list, " ")
			moves, ok := plainRead(s)
			m, err := Read(s)
			if ok != (err == nil) || err != nil && m != (Move{}) {
				t.Fatalf("%q: %v %v, want %v", s, m, err, ok)
			}
			if ok {
				read++
				goesAlike(t, s, m, moves)
			}
		}
		if len(list) < 5 {
			for _, w := range words {
				each(append(list[:len(list):len(list)], w))
			}
		}
	}
	each(nil)
	if read < 200 {
		t.Error("too few were read:", read)
	}
}

func goesAlike(t *testing.T, s string, m Move, moves []Move) {
	for _, p := range []api.Point{at(0, 0), at(1, 0), at(0, 1), at(-5, 7)} {
		want := p
		for i := len(moves) - 1; i >= 0; i-- {
			want, _ = moves[i].At(want)
		}
		if q, err := m.At(p); q != want || err != nil {
			t.Fatalf("%q: %v to %v %v, want %v", s, p, q, err, want)
		}
	}
}

// P1: a long text ends, and keeps its answer.
func TestReadLong(t *testing.T) {
	if m, err := Read(strings.Repeat("turn 1 ", 40001) + "turn 2"); m != of(0, -1, 1, 0, 0, 0) || err != nil {
		t.Error(m, err)
	}
	if m, err := Read(strings.Repeat(" ", 100000)); m != (Move{}) || err != api.ErrText {
		t.Error(m, err)
	}
}

// P1, P3: whatever it is given, it answers a right move or an error alone.
func FuzzRead(f *testing.F) {
	for _, s := range []string{"", "move 1 2", "scale 1/2 -3 turn 3", "skew 2/4", "turn 4", "move 1"} {
		f.Add(s)
	}
	f.Fuzz(func(t *testing.T, s string) {
		m, err := Read(s)
		if err == nil && m.Check() != nil {
			t.Errorf("%q: %v", s, m)
		}
		if err != nil && (m != Move{} || err != api.ErrText && err != api.ErrShape && err != api.ErrBound) {
			t.Errorf("%q: %v %v", s, m, err)
		}
	})
}
