package scene

import (
	"errors"
	"math/big"
	"math/rand/v2"
	"regexp"
	"slices"
	"sort"
	"strconv"
	"strings"
	"testing"

	"leadlight/api"
	"leadlight/doc"
	"leadlight/style"
)

// some documents and sheets, from a fixed beginning; one value in so many is wrong (0: none).
type some struct {
	*rand.Rand
	wrongIn int
}

func (s some) oneOf(l ...string) string { return l[s.IntN(len(l))] }

// value of an attribute, a wrong one or a right one.
func (s some) value(wrong []string, right ...string) string {
	if s.wrongIn > 0 && s.IntN(s.wrongIn) == 0 {
		return s.oneOf(wrong...)
	}
	return s.oneOf(right...)
}

// The wrong values, by the error that they make; the right ones of the model are in none of these lists.
var (
	notValue = []string{"what", "2/4", "1,y", " ", "turn 5", "1/1"}
	notBound = []string{"2147483648", "1,1001", "move 2147483648 0", "1/1073741825", "scale 1000000 1 scale 1000000 1"}
)

// attrsOf an element: some of its own kind, and of the others' too, as those do not count.
func (s some) attrsOf() []api.Attr {
	l := []api.Attr{
		{Name: "move", Value: s.value([]string{"what", " ", "turn 5", "move 2147483648 0", "scale 1000000 1 scale 1000000 1"}, "", "turn 1", "move 1 -2", "scale 2 1", "scale 1/2 -1", "skew 1", "move 1/2 0 turn 3", "turn 2 scale 1 2", "scale -1 1 move 3 0")},
		{Name: "x", Value: s.value([]string{"what", "2/4", "2147483648"}, "1", "-3/2", "7")},
		{Name: "y", Value: s.value([]string{"what", "1/1", "1/1073741825"}, "2", "-1/3", "5")},
		{Name: "w", Value: s.value([]string{" ", "2/4", "2147483648"}, "3", "1/2", "0", "-2")},
		{Name: "h", Value: s.value([]string{"what", "2147483648"}, "4", "5/2", "-1")},
		{Name: "points", Value: s.value([]string{"what", "1,y", "1,1001"}, "", "0,0", "0,0 4,0 2,3", "1/2,1/3 -1,2 5,5 0,-7/4")},
		{Name: "show", Value: s.oneOf("no", "yes", "")},
		{Name: "fill", Value: s.oneOf("a", "b", "none", "")},
		{Name: "rule", Value: s.oneOf("wind", "even", "x")},
		{Name: "level", Value: s.oneOf("0", "1", "2", "10", "01", "999", "1000", "-1", "x")},
		{Name: "class", Value: s.oneOf("k", "l", "k l")},
	}
	l = slices.DeleteFunc(l, func(a api.Attr) bool { return s.IntN(3) > 0 || a.Name == "show" && s.IntN(3) > 0 })
	return l[:min(len(l), api.MaxAttrs-2)] // link sets two more
}

// document whose uses lead to greater numbers, so that there is no cycle, but where they are let lead anywhere.
func (s some) document(t *testing.T, size int, anywhere bool) *doc.Doc {
	d := open(t, `<group fill="z"/>`)
	for range size {
		up := s.parentIn(d)
		n, err := d.Add(up, s.IntN(len(d.Kids(up))+1), s.oneOf("box", "poly", "group", "group", "group", "use", "use", "other"))
		if err != nil {
			continue
		}
		for _, a := range s.attrsOf() {
			if err := d.Set(n, a.Name, a.Value); err != nil {
				t.Fatal(n, a, err)
			}
		}
	}
	s.link(t, d, anywhere)
	return d
}

// parentIn a document: mostly a group, as nothing is come to in the others.
func (s some) parentIn(d *doc.Doc) int {
	all := d.All()
	groups := slices.DeleteFunc(d.All(), func(n int) bool { return d.Name(n) != "group" })
	if s.IntN(10) == 0 {
		return all[s.IntN(len(all))]
	}
	return groups[s.IntN(len(groups))]
}

// link uses to elements by ids, of which there may be several ones, or none.
func (s some) link(t *testing.T, d *doc.Doc, anywhere bool) {
	most := slices.Max(d.All())
	for _, n := range d.All() {
		id, of := "i"+strconv.Itoa(n), "i"+strconv.Itoa(min(most, n+1+s.IntN(6)))
		if anywhere {
			id, of = "i"+strconv.Itoa(n%20), "i"+strconv.Itoa(s.IntN(20))
		}
		if s.wrongIn > 0 && s.IntN(s.wrongIn) == 0 {
			of = s.oneOf("", "i", "I1", "i1 ", "i999")
		}
		if (s.wrongIn == 0 || s.IntN(s.wrongIn) > 0) && d.Set(n, "id", id) != nil || d.Name(n) == "use" && d.Set(n, "of", of) != nil {
			t.Fatal(n, id, of)
		}
	}
}

func (s some) sheet(t *testing.T) []style.Rule {
	var b strings.Builder
	for range s.IntN(8) {
		b.WriteString(s.oneOf("*", "box", "poly", ".k", ".l", "group box", "group > poly", "use", "group .k") + " { " + s.oneOf("fill: c", "fill: none", "rule: even", "level: 3", "level: 12", "show: yes") + " }\n")
	}
	if s.IntN(4) == 0 {
		b.WriteString(".k.l { show: no }\n")
	}
	return sheet(t, b.String())
}

type point struct{ x, y *big.Rat }

func ratOf(s string) *big.Rat {
	r, ok := new(big.Rat).SetString(s)
	if !ok {
		panic(s)
	}
	return r
}

func plus(a, b *big.Rat) *big.Rat { return new(big.Rat).Add(a, b) }

func times(a, b *big.Rat) *big.Rat { return new(big.Rat).Mul(a, b) }

func (p point) quarter() point { return point{new(big.Rat).Neg(p.y), p.x} }

// movedBy a right text, word by word from its end: no product of moves is made.
func (p point) movedBy(text string) point {
	words := strings.Fields(text)
	for i := len(words) - 1; i >= 0; i-- {
		switch words[i] {
		case "move":
			p = point{plus(p.x, ratOf(words[i+1])), plus(p.y, ratOf(words[i+2]))}
		case "scale":
			p = point{times(p.x, ratOf(words[i+1])), times(p.y, ratOf(words[i+2]))}
		case "skew":
			p = point{plus(p.x, times(ratOf(words[i+1]), p.y)), p.y}
		case "turn":
			for range int(words[i+1][0] - '0') {
				p = p.quarter()
			}
		}
	}
	return p
}

func (p point) tooGreat() bool {
	for _, a := range []*big.Rat{p.x, p.y} {
		if new(big.Rat).Abs(a).Cmp(big.NewRat(1000, 1)) > 0 || a.Denom().Cmp(big.NewInt(20)) > 0 {
			return true
		}
	}
	return false
}

// model says the chapter another way: the ways from the root to what is come to are kept as lists, and the next one is taken until there is none.
type model struct {
	d     *doc.Doc
	l     []style.Rule
	count int
	lines []string // of pieces, in their order
	level []int
}

func (m *model) attr(n int, name, none string) string {
	if value, ok := m.d.Attr(n, name); ok {
		return value
	}
	return none
}

// firstWrong of an element's attributes.
func (m *model) firstWrong(n int) error {
	names := map[string][]string{"box": {"move", "x", "y", "w", "h"}, "poly": {"move", "points"}, "group": {"move"}, "use": {"move"}}
	for _, name := range names[m.d.Name(n)] {
		value, ok := m.d.Attr(n, name)
		if ok && slices.Contains(notValue, value) {
			return api.ErrValue
		}
		if ok && slices.Contains(notBound, value) {
			return api.ErrBound
		}
	}
	return nil
}

// outline of a right box or poly, ahead of its moves.
func (m *model) outline(n int) []point {
	var l []point
	if m.d.Name(n) == "box" {
		x, y := ratOf(m.attr(n, "x", "0")), ratOf(m.attr(n, "y", "0"))
		w, h := ratOf(m.attr(n, "w", "0")), ratOf(m.attr(n, "h", "0"))
		return append(l, point{x, y}, point{plus(x, w), y}, point{plus(x, w), plus(y, h)}, point{x, plus(y, h)})
	}
	for _, word := range strings.Fields(m.attr(n, "points", "")) {
		x, y, _ := strings.Cut(word, ",")
		l = append(l, point{ratOf(x), ratOf(y)})
	}
	return l
}

func (m *model) put(way []int) error {
	n := way[len(way)-1]
	level := 0
	if s := style.Of(m.d, m.l, n, "level"); regexp.MustCompile(`^(0|[1-9][0-9]{0,2})$`).MatchString(s) {
		level, _ = strconv.Atoi(s)
	}
	line := strings.Join([]string{strconv.Itoa(n), style.Of(m.d, m.l, n, "fill"), style.Of(m.d, m.l, n, "rule"), strconv.Itoa(level)}, " ")
	for _, p := range m.outline(n) {
		for i := len(way) - 1; i >= 0; i-- {
			p = p.movedBy(m.attr(way[i], "move", ""))
		}
		if p.tooGreat() {
			return api.ErrBound
		}
		line += " " + p.x.RatString() + "," + p.y.RatString()
	}
	if style.Of(m.d, m.l, n, "fill") != "none" {
		m.lines, m.level = append(m.lines, line), append(m.level, level)
	}
	return nil
}

// next ways behind one.
func (m *model) next(way []int) ([][]int, error) {
	n := way[len(way)-1]
	switch {
	case slices.Contains(way[:len(way)-1], n):
		return nil, api.ErrCycle
	case m.count == 100:
		return nil, api.ErrFull
	}
	m.count++
	name := m.d.Name(n)
	if style.Of(m.d, m.l, n, "show") == "no" {
		return nil, nil
	}
	if err := m.firstWrong(n); err != nil {
		return nil, err
	}
	var kids []int
	switch name {
	case "box", "poly":
		return nil, m.put(way)
	case "group":
		kids = m.d.Kids(n)
	case "use":
		for _, k := range m.d.All() {
			if of, _ := m.d.Attr(n, "of"); len(kids) == 0 && of != "" && m.attr(k, "id", "") == of {
				kids = []int{k}
			}
		}
		if len(kids) == 0 {
			return nil, api.ErrValue
		}
	}
	var ways [][]int
	for _, k := range kids {
		ways = append(ways, append(slices.Clone(way), k))
	}
	return ways, nil
}

func (m *model) run() (string, error, int) {
	for ways := [][]int{{0}}; len(ways) > 0; {
		way := ways[0]
		more, err := m.next(way)
		if err != nil {
			return "", err, way[len(way)-1]
		}
		ways = append(more, ways[1:]...)
	}
	order := make([]int, len(m.lines))
	for i := range order {
		order[i] = i
	}
	sort.Slice(order, func(i, j int) bool {
		a, b := order[i], order[j]
		return m.level[a] < m.level[b] || m.level[a] == m.level[b] && a < b
	})
	var sorted []string
	for _, i := range order {
		sorted = append(sorted, m.lines[i])
	}
	return strings.Join(sorted, ";"), nil, -1
}

// P80, P81: many documents and sheets against the model.
func TestAgainstModel(t *testing.T) {
	r := some{Rand: rand.New(rand.NewPCG(8, 80))}
	seen := map[error]int{}
	many := 0
	for i := range 6000 {
		r.wrongIn = []int{0, 60, 200}[i%3]
		d, l := r.document(t, 3+r.IntN(90), i%4 == 0), r.sheet(t)
		want, wrong, at := (&model{d: d, l: l}).run()
		seen[wrong]++
		many += strings.Count(want, ";")
		got, err := Pieces(d, l)
		if wrong == nil {
			if s := told(got); s != want || err != nil {
				t.Fatalf("%v: %q %v, want %q", d.Node(), s, err, want)
			}
			continue
		}
		var f *api.Fault
		if len(got) > 0 || !errors.As(err, &f) || f.Err != wrong || f.At != at {
			t.Fatalf("%v: %v %#v, want %v at %d", d.Node(), told(got), err, wrong, at)
		}
	}
	for _, err := range []error{nil, api.ErrCycle, api.ErrFull, api.ErrValue, api.ErrBound} {
		if seen[err] < 60 {
			t.Error("too few:", err, seen[err])
		}
	}
	if many < 5000 {
		t.Error("too few pieces:", many)
	}
}
