package live

import (
	"math/big"
	"math/rand/v2"
	"slices"
	"strconv"
	"strings"
	"sync"
	"testing"

	"leadlight/api"
	"leadlight/doc"
	"leadlight/paint"
	"leadlight/plain"
	"leadlight/scene"
	"leadlight/style"
)

const beginning = `<group><box id="a" w="3" h="2" fill="a"/><group id="g" class="k" move="move 1 2"><poly points="0,0 4,0 2,3" fill="b"/><box x="2" y="1/2" w="2" h="3"/></group><use of="a" move="move 4 4 turn 1" fill="c"/></group>`

const wide, high = 8, 7

// some edits, from a fixed beginning.
type some struct{ *rand.Rand }

func (s some) oneOf(l ...string) string { return l[s.IntN(len(l))] }

// edit of elements of numbers below most; few of them are wrong.
func (s some) edit(most int) Edit {
	e := Edit{Kind: s.oneOf("set", "set", "set", "set", "set", "set", "add", "add", "move", "remove", "unset", "unset", "sheet"), N: s.IntN(most), M: s.IntN(most), At: s.IntN(3)}
	switch {
	case s.IntN(60) == 0:
		e.Kind = s.oneOf("", "what", "Set")
	case e.Kind == "add":
		e.Name = s.oneOf("box", "box", "group", "poly", "use", "other")
		e.N = s.IntN(6)
	case e.Kind == "sheet":
		e.Value = s.oneOf("", "box { fill: z }\n", "* { rule: even }\n", ".k > * { level: 2 }\n#a { show: no }\n", "use { fill: u }\nbox { level: 1 }\n", "group { fill: y }\n[x] { rule: what }\n", "what\n", "box { fill: z }")
	default:
		e.Name, e.Value = s.attr()
	}
	switch s.IntN(90) {
	case 0:
		e.Name = s.oneOf("", "X")
	case 1:
		e.Value = "\n"
	case 2:
		e.At = -1
	}
	return e
}

func (s some) attr() (name, value string) {
	whole := strconv.Itoa(s.IntN(7))
	name = s.oneOf("x", "y", "w", "h", "fill", "rule", "show", "level", "move", "points", "of", "id", "class", "data")
	switch name {
	case "fill":
		value = s.oneOf("a", "b", "c", "none", "")
	case "rule":
		value = s.oneOf("wind", "even", "even", "wind", "what")
	case "show":
		value = s.oneOf("yes", "no", "")
	case "move":
		value = s.oneOf("", "turn 1", "move 1 1", "scale 1/2 2", "move -3 0 turn 2", "turn 9", "scale 40000 1")
	case "points":
		value = s.oneOf("", "0,0 3,0 0,3", "1,1 6,1 6,6 1,6 1,1 6,1 6,6 1,6", "0,1/2 8,1/2 8,9/2", "1,y")
	case "of", "id":
		value = s.oneOf("a", "g", "h")
	case "class":
		value = s.oneOf("k", "l", "k l")
	default:
		value = s.oneOf(whole, whole, "-"+whole+"1/2", whole+"/1", "1/2", "what")
	}
	return name, value
}

// begin a picture of the model.
func begin(t testing.TB) *Live {
	t.Helper()
	l, err := New(read(t, beginning), "", wide, high)
	if err != nil {
		t.Fatal(err)
	}
	return l
}

// told: all that a later call could tell, with the number that the next element will have.
func told(l *Live) string {
	d := l.Doc().Clone()
	for _, kid := range d.Kids(0) {
		d.Remove(kid)
	}
	next, err := d.Add(0, 0, "x")
	if err != nil {
		return err.Error()
	}
	s := text(l.Node()) + " next " + strconv.Itoa(next) + " rules " + strconv.Itoa(len(l.rules)) + "\n" + l.Picture().Text()
	for _, n := range l.Doc().All() {
		s += strconv.Itoa(n) + " "
	}
	return s
}

// piecesOf a picture, from the beginning: of its node, numbered anew.
func piecesOf(t testing.TB, l *Live, sheet string) []scene.Piece {
	t.Helper()
	d, err := doc.New(l.Node())
	if err != nil {
		t.Fatal(err)
	}
	rules, err := style.Read(sheet)
	if err != nil {
		t.Fatal(err)
	}
	pieces, err := scene.Pieces(d, rules)
	if err != nil {
		t.Fatal(err)
	}
	return pieces
}

func rat(a api.Frac) *big.Rat { return big.NewRat(int64(a.Num), int64(a.Den)) }

// rowText of the pieces whose points lie on both sides of a row's centres, or on their height.
func rowText(l []scene.Piece, y int) string {
	height := big.NewRat(int64(2*y+1), 2)
	var b strings.Builder
	for _, s := range l {
		look, over, under := s.Fill+" "+s.Rule, false, false
		for _, p := range s.Shape.Points {
			look += " " + rat(p.X).String() + "," + rat(p.Y).String()
			over = over || rat(p.Y).Cmp(height) <= 0
			under = under || rat(p.Y).Cmp(height) >= 0
		}
		if over && under {
			b.WriteString(look + "\n")
		}
	}
	return b.String()
}

// rowsBetween two lists of pieces.
func rowsBetween(was, is []scene.Piece) []int {
	var rows []int
	for y := range high {
		if rowText(was, y) != rowText(is, y) {
			rows = append(rows, y)
		}
	}
	return rows
}

// errorOf an edit, from the beginning.
func errorOf(l *Live, sheet string, e Edit) error {
	d := l.Doc().Clone()
	if err := applied(d, e); err != nil {
		return err
	}
	if e.Kind == "sheet" {
		sheet = e.Value
	}
	rules, err := style.Read(sheet)
	if err != nil {
		return err
	}
	pieces, err := scene.Pieces(d, rules)
	if err != nil {
		return err
	}
	_, err = paint.Paint(pieces, wide, high)
	return err
}

func sameError(a, b error) bool {
	codeA, placeA := plain.Code(a)
	codeB, placeB := plain.Code(b)
	return codeA == codeB && placeA == placeB
}

// checkFresh: it is as painted from the beginning.
func checkFresh(t *testing.T, l *Live, sheet string) {
	t.Helper()
	fresh, err := New(l.Node(), sheet, wide, high)
	if err != nil {
		t.Fatal(err)
	}
	p, err := paint.Paint(piecesOf(t, l, sheet), wide, high)
	if err != nil || !paint.Same(p, l.Picture()) || !paint.Same(fresh.Picture(), l.Picture()) || text(fresh.Node()) != text(l.Node()) {
		t.Fatal(err, text(l.Node()), sheet, p.Text(), fresh.Picture().Text(), l.Picture().Text())
	}
}

// P101, P102: many edits: the rows and errors by another way; behind each it is as painted from the beginning, and behind an error as it was.
func TestDoFresh(t *testing.T) {
	r := some{rand.New(rand.NewPCG(10, 101))}
	seen := map[string]int{}
	for range 150 {
		l, sheet := begin(t), ""
		own := l.Doc()
		for range 40 {
			e := r.edit(10)
			was, wasTold, want := piecesOf(t, l, sheet), told(l), errorOf(l, sheet, e)
			rows, err := l.Do(e)
			if !sameError(err, want) || l.Doc() != own {
				t.Fatal(e, err, "want", want)
			}
			if err != nil {
				code, _ := plain.Code(err)
				seen["error "+strconv.Itoa(code)]++
				if len(rows) > 0 || told(l) != wasTold {
					t.Fatal(e, err, rows, told(l), "was", wasTold)
				}
				continue
			}
			if e.Kind == "sheet" {
				sheet = e.Value
			}
			seen[e.Kind]++
			seen[strconv.Itoa(len(rows))+" rows"]++
			if want := rowsBetween(was, piecesOf(t, l, sheet)); !slices.Equal(rows, want) {
				t.Fatal(e, rows, "want", want)
			}
			checkFresh(t, l, sheet)
		}
	}
	for _, s := range []string{"add", "remove", "move", "set", "unset", "sheet", "0 rows", "1 rows", "2 rows", "5 rows", "7 rows", "error 1", "error 2", "error 3", "error 4", "error 5", "error 9", "error 10"} {
		if seen[s] < 10 {
			t.Error("too few:", s, seen)
		}
	}
}

// undoing: the edit that takes back another one, which is yet to be done; none for what is to be removed.
func undoing(l *Live, sheet string, e Edit) (Edit, bool) {
	d := l.Doc()
	switch e.Kind {
	case "add":
		c := d.Clone()
		n, err := c.Add(e.N, e.At, e.Name)
		return Edit{Kind: "remove", N: n}, err == nil
	case "move":
		parent := d.Parent(e.N)
		return Edit{Kind: "move", N: e.N, M: parent, At: slices.Index(d.Kids(parent), e.N)}, parent >= 0
	case "set", "unset":
		value, is := d.Attr(e.N, e.Name)
		if !is {
			return Edit{Kind: "unset", N: e.N, Name: e.Name}, true
		}
		return Edit{Kind: "set", N: e.N, Name: e.Name, Value: value}, true
	case "sheet":
		return Edit{Kind: "sheet", Value: sheet}, true
	}
	return Edit{}, false
}

// sortedText, by the names of attributes: one that is unset, and set again, stands behind all others.
func sortedText(l *Live) string {
	d := l.Doc().Clone()
	for _, n := range d.All() {
		for _, name := range []string{"class", "data", "fill", "h", "id", "level", "move", "of", "points", "rule", "show", "w", "x", "y"} {
			if value, is := d.Attr(n, name); is {
				d.Unset(n, name)
				d.Set(n, name, value)
			}
		}
	}
	return text(d.Node())
}

// P102: what is done, and undone, is as it was; the same rows are painted anew.
func TestUndone(t *testing.T) {
	r := some{rand.New(rand.NewPCG(10, 102))}
	seen := map[string]int{}
	for range 150 {
		l, sheet := begin(t), ""
		for range 30 {
			e := r.edit(9)
			back, ok := undoing(l, sheet, e)
			was, wasText, wasSorted := l.Picture(), text(l.Node()), sortedText(l)
			rows, err := l.Do(e)
			if !ok || err != nil {
				if err == nil && e.Kind == "sheet" {
					sheet = e.Value
				}
				continue
			}
			again, err := l.Do(back)
			if err != nil || !slices.Equal(rows, again) || !paint.Same(was, l.Picture()) || sortedText(l) != wasSorted || e.Kind != "unset" && text(l.Node()) != wasText {
				t.Fatal(e, back, rows, again, err, was.Text(), l.Picture().Text(), wasText, text(l.Node()))
			}
			if len(rows) > 0 {
				seen[e.Kind]++
			}
			if r.IntN(3) > 0 { // it goes on from another picture
				if e.Kind == "add" {
					e.N = 0
				}
				if _, err := l.Do(e); err == nil && e.Kind == "sheet" {
					sheet = e.Value
				}
			}
		}
	}
	for _, kind := range []string{"move", "set", "unset", "sheet"} {
		if seen[kind] < 20 {
			t.Error("too few:", kind, seen)
		}
	}
}

// P102: many edits, undone from the last one on, and then done again.
func TestUndoneAll(t *testing.T) {
	r := some{rand.New(rand.NewPCG(10, 103))}
	for range 60 {
		l, sheet := begin(t), ""
		first := l.Picture()
		var done, undo []Edit
		for len(done) < 25 {
			e := r.edit(9)
			back, ok := undoing(l, sheet, e)
			if !ok {
				continue
			}
			if _, err := l.Do(e); err != nil {
				continue
			}
			if e.Kind == "sheet" {
				sheet = e.Value
			}
			done, undo = append(done, e), append(undo, back)
		}
		last := l.Picture()
		for _, e := range slices.Backward(undo) {
			if _, err := l.Do(e); err != nil {
				t.Fatal(e, err)
			}
		}
		if !paint.Same(first, l.Picture()) {
			t.Fatal(done, l.Picture().Text(), text(l.Node()))
		}
		again := begin(t)
		for _, e := range done {
			if _, err := again.Do(e); err != nil {
				t.Fatal(e, err)
			}
		}
		if !paint.Same(last, again.Picture()) {
			t.Fatal(done, last.Text(), again.Picture().Text())
		}
	}
}

func playAll(t testing.TB, edits []Edit) string {
	l := begin(t)
	var b strings.Builder
	for _, e := range edits {
		rows, err := l.Do(e)
		code, place := plain.Code(err)
		for _, y := range append(rows, -1, code, place) {
			b.WriteString(strconv.Itoa(y) + " ")
		}
	}
	return b.String() + told(l)
}

// P2: the same edits make the same, behind other calls, and side by side with them.
func TestSideBySide(t *testing.T) {
	r := some{rand.New(rand.NewPCG(10, 2))}
	var edits []Edit
	for range 80 {
		edits = append(edits, r.edit(12))
	}
	want := playAll(t, edits)
	var wait sync.WaitGroup
	for range 8 {
		wait.Go(func() {
			if got := playAll(t, edits); got != want {
				t.Error(got, "want", want)
			}
		})
	}
	wait.Wait()
}
