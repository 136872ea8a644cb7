package live

import (
	"math"
	"slices"
	"strings"
	"testing"

	"leadlight/api"
	"leadlight/mark"
	"leadlight/paint"
)

// isFault: the very error, at this place (-1: bare).
func isFault(err error, at int, want error) bool {
	if at < 0 {
		return err == want
	}
	f, ok := err.(*api.Fault)
	return ok && f.At == at && f.Err == want
}

func start(t testing.TB, s, sheet string, w, h int) *Live {
	t.Helper()
	l, err := New(read(t, s), sheet, w, h)
	if err != nil {
		t.Fatal(s, err)
	}
	return l
}

// P101: a new picture, with its node and document.
func TestNew(t *testing.T) {
	for i, c := range []struct {
		s, sheet string
		w, h     int
		want     string
	}{
		{`<group/>`, "", 3, 2, "...\n...\n"},
		{`<other/>`, "* { fill: a }\n", 1, 1, ".\n"},
		{`<box w="1" h="1"/>`, "", 1, 1, ".\n"},
		{`<box w="1" h="1"/>`, "box { fill: a }\n", 1, 1, "a\n"},
		{`<box w="1" h="1" fill="b"/>`, "box { fill: a }\n", 2, 2, "b.\n..\n"},
		{`<group fill="a"><box id="p" x="1" w="2" h="1" move="move 0 1"/><use of="p" move="move -1 1"/></group>`, "#p { rule: even }\n", 4, 3, "....\n.aa.\naa..\n"},
		{`<group fill="a"><poly points="0,0 4,0 0,4"/><box fill="b" w="1" h="3" level="1"/><box fill="c" w="3" h="1"/></group>`, "", 3, 3, "bcc\nba.\nb..\n"},
		{`<box w="40" h="40" fill="a"/>`, "", 40, 40, strings.Repeat(strings.Repeat("a", 40)+"\n", 40)},
	} {
		l := start(t, c.s, c.sheet, c.w, c.h)
		p := l.Picture()
		if p.W != c.w || p.H != c.h || p.Text() != c.want || text(l.Node()) != c.s || text(l.Doc().Node()) != c.s {
			t.Error(i, p, text(l.Node()))
		}
	}
}

// P101: New's errors, with their places; each ahead of those that are named behind it.
func TestNewWrong(t *testing.T) {
	well, use := `<group><box fill="a"/></group>`, `<group><box fill="a" rule="what"/><use/></group>`
	rule := `<group><box fill="a"/><box fill="a" rule="what" level="0"/><box rule="what"/></group>`
	for i, c := range []struct {
		s, sheet string
		w, h, at int
		err      error
	}{
		{well, "what\n", 0, 0, 0, api.ErrText}, {well, "box { fill: a }\nbox { fill: a }", 3, 3, 1, api.ErrText}, {use, "what", 3, 3, 0, api.ErrText}, {well, strings.Repeat("x", api.MaxText+1), 0, 3, -1, api.ErrBound}, {use, strings.Repeat("box { fill: a }\n", api.MaxRules+1), -1, 3, -1, api.ErrFull},
		{well, "", 0, 1, -1, api.ErrBound}, {well, "", 1, 0, -1, api.ErrBound}, {well, "", 41, 1, -1, api.ErrBound}, {well, "", 1, 41, -1, api.ErrBound}, {use, "", -1, 1, -1, api.ErrBound}, {rule, "", 1, math.MaxInt, -1, api.ErrBound}, {use, "", math.MinInt, 1, -1, api.ErrBound}, {rule, "", 1 << 40, 1 << 40, -1, api.ErrBound},
		{use, "", 40, 40, 2, api.ErrValue}, {`<group><box x="what"/></group>`, "", 1, 1, 1, api.ErrValue}, {`<group><box w="1000001/2"/></group>`, "", 1, 1, 1, api.ErrBound}, {`<group id="g"><use of="g"/></group>`, "", 1, 1, 0, api.ErrCycle},
		{rule, "", 1, 1, 1, api.ErrValue}, {`<box fill="a"/>`, "box { rule: what }\n", 1, 1, 0, api.ErrValue},
	} {
		l, err := New(read(t, c.s), c.sheet, c.w, c.h)
		if l != nil || !isFault(err, c.at, c.err) {
			t.Errorf("%d %v %#v", i, l != nil, err)
		}
	}
	bad := mark.Node{Name: "group", Kids: []mark.Node{{Name: "Box"}}}
	for _, w := range []int{0, 1} {
		for _, sheet := range []string{"what", ""} {
			if l, err := New(bad, sheet, w, 1); l != nil || !isFault(err, 1, api.ErrName) {
				t.Errorf("%d %q %#v", w, sheet, err)
			}
			if l, err := New(mark.Node{}, sheet, w, 1); l != nil || !isFault(err, 0, api.ErrName) {
				t.Errorf("%d %q %#v", w, sheet, err)
			}
		}
	}
}

// step of a picture's life: an edit, the rows that it paints anew, and the picture behind it.
type step struct {
	e    Edit
	rows []int
	want string
}

func take(t *testing.T, l *Live, steps []step) {
	t.Helper()
	for i, s := range steps {
		rows, err := l.Do(s.e)
		if p := strings.ReplaceAll(l.Picture().Text(), "\n", ";"); err != nil || !slices.Equal(rows, s.rows) || p != s.want {
			t.Error(i, s.e, rows, err, p)
		}
	}
}

func set(n int, name, value string) Edit { return Edit{Kind: "set", N: n, Name: name, Value: value} }

// P101: the rows of each kind of edit.
func TestDo(t *testing.T) {
	take(t, start(t, `<group><box w="2" h="1" fill="a"/><box y="2" w="2" h="2" fill="b"/></group>`, "", 2, 5), []step{
		{set(1, "h", "2"), []int{0, 1}, "aa;aa;bb;bb;..;"},
		{set(1, "h", "1"), []int{0, 1}, "aa;..;bb;bb;..;"},
		{set(2, "y", "3"), []int{2, 3, 4}, "aa;..;..;bb;bb;"},
		{set(2, "y", "5/2"), []int{2, 3, 4}, "aa;..;bb;bb;..;"},
		{set(2, "y", "2"), []int{2, 3, 4}, "aa;..;bb;bb;..;"},
		{Edit{Kind: "sheet", Value: "box { rule: even }\n"}, []int{0, 2, 3}, "aa;..;bb;bb;..;"},
		{Edit{Kind: "sheet", Value: "box { rule: even }\n.k { fill: z }\n"}, nil, "aa;..;bb;bb;..;"},
		{set(2, "class", "k"), nil, "aa;..;bb;bb;..;"},
		{Edit{Kind: "unset", N: 2, Name: "fill"}, []int{2, 3}, "aa;..;zz;zz;..;"},
		{Edit{Kind: "sheet"}, []int{0, 2, 3}, "aa;..;..;..;..;"},
		{set(0, "fill", "c"), []int{2, 3}, "aa;..;cc;cc;..;"},
		{Edit{Kind: "add", At: 2, Name: "group"}, nil, "aa;..;cc;cc;..;"},
		{Edit{Kind: "move", N: 2, M: 3}, nil, "aa;..;cc;cc;..;"},
		{set(3, "move", "move 0 -2"), []int{0, 1, 2, 3}, "cc;cc;..;..;..;"},
		{Edit{Kind: "move", N: 3}, []int{0}, "aa;cc;..;..;..;"},
		{set(3, "show", "no"), []int{0, 1}, "aa;..;..;..;..;"},
		{set(2, "h", "4"), nil, "aa;..;..;..;..;"},
		{Edit{Kind: "remove", N: 3}, nil, "aa;..;..;..;..;"},
		{Edit{Kind: "remove", N: 1}, []int{0}, "..;..;..;..;..;"},
		{Edit{Kind: "add", Name: "box"}, nil, "..;..;..;..;..;"},
		{set(4, "h", "5"), []int{0, 1, 2, 3, 4}, "..;..;..;..;..;"},
		{set(4, "w", "1"), []int{0, 1, 2, 3, 4}, "c.;c.;c.;c.;c.;"},
		{Edit{Kind: "unset", N: 4, Name: "h"}, []int{0, 1, 2, 3, 4}, "..;..;..;..;..;"},
	})
}

// P101: not what shows counts, but which pieces reach: hidden ones, those beside the picture, the same ones in another order.
func TestDoReaches(t *testing.T) {
	take(t, start(t, `<group fill="a"><box w="2" h="1"/><box w="2" h="3"/><box x="9" w="2" h="2"/></group>`, "", 2, 4), []step{
		{set(1, "fill", "b"), []int{0}, "aa;aa;aa;..;"},
		{set(3, "fill", "c"), []int{0, 1}, "aa;aa;aa;..;"},
		{set(3, "x", "-9"), []int{0, 1}, "aa;aa;aa;..;"},
		{set(3, "level", "5"), nil, "aa;aa;aa;..;"},
		{set(2, "level", "9"), []int{0, 1}, "aa;aa;aa;..;"},
		{set(1, "level", "7"), []int{0}, "aa;aa;aa;..;"},
		{set(1, "level", "999"), []int{0}, "bb;aa;aa;..;"},
		{set(1, "level", "1000"), []int{0}, "aa;aa;aa;..;"},
		{set(3, "y", "4"), []int{0, 1}, "aa;aa;aa;..;"},
		{set(3, "y", "-2"), nil, "aa;aa;aa;..;"},
		{set(3, "y", "-3/2"), []int{0}, "aa;aa;aa;..;"},
		{set(3, "rule", "even"), []int{0}, "aa;aa;aa;..;"},
		{set(3, "fill", "none"), []int{0}, "aa;aa;aa;..;"},
		{set(3, "y", "1"), nil, "aa;aa;aa;..;"},
		{set(3, "fill", ""), []int{1, 2}, "aa;aa;aa;..;"},
	})
}

// P101: an element that another one stands for, of the same Shape, Fill and Rule, leaves the rows as they are.
func TestDoSameLook(t *testing.T) {
	take(t, start(t, `<group fill="a"><box w="2" h="1"/><group><box w="2" h="1"/></group><box id="p" show="no" w="2" h="1"/></group>`, "", 2, 2), []step{
		{Edit{Kind: "move", N: 1, M: 0, At: 1}, nil, "aa;..;"},
		{set(1, "level", "3"), nil, "aa;..;"},
		{set(3, "fill", "a"), nil, "aa;..;"},
		{set(1, "rule", "wind"), nil, "aa;..;"},
		{set(1, "move", "move 0 0"), nil, "aa;..;"},
		{set(1, "w", "-2"), []int{0}, "aa;..;"},
		{set(1, "x", "2"), []int{0}, "aa;..;"},
		{Edit{Kind: "remove", N: 1}, []int{0}, "aa;..;"},
		{Edit{Kind: "add", N: 2, At: 1, Name: "box"}, nil, "aa;..;"},
	})
	l := start(t, `<group fill="a"><box id="p" w="1" h="1"/><box id="q" w="1" h="1"/><use of="p"/></group>`, "", 1, 1)
	take(t, l, []step{{set(3, "of", "q"), nil, "a;"}, {set(2, "w", "2"), []int{0}, "a;"}})
}

// checkRefused: an edit is told as this error, at this place, and nothing changes.
func checkRefused(t *testing.T, l *Live, e Edit, at int, want error) {
	t.Helper()
	was, picture := told(l), l.Picture()
	rows, err := l.Do(e)
	if len(rows) > 0 || !isFault(err, at, want) {
		t.Errorf("%v: %v %#v, want %v at %d", e, rows, err, want, at)
	}
	if told(l) != was || !paint.Same(l.Picture(), picture) {
		t.Error(e, told(l), "was", was)
	}
}

// P101: Do's errors, in their order; then nothing changes.
func TestDoWrong(t *testing.T) {
	l := start(t, `<group id="g"><box w="1" h="1" fill="a"/><use of="g" show="no"/><box x="90" fill="a"/></group>`, "#q { fill: z }\n.k { rule: what }\n", 3, 3)
	for _, c := range []struct {
		e   Edit
		at  int
		err error
	}{
		{Edit{}, -1, api.ErrName}, {Edit{Kind: "what", N: 99}, -1, api.ErrName}, {Edit{Kind: "Sheet", Value: "what"}, -1, api.ErrName},
		{set(9, "x", "1"), -1, api.ErrNone}, {set(1, "X", "1"), -1, api.ErrName}, {set(1, "x", "\n"), -1, api.ErrValue}, {Edit{Kind: "remove"}, -1, api.ErrShape}, {Edit{Kind: "move", N: 1, M: 1}, -1, api.ErrCycle}, {Edit{Kind: "move", N: 1, At: 3}, -1, api.ErrBound}, {Edit{Kind: "unset", N: 1, Name: "x"}, -1, api.ErrNone}, {Edit{Kind: "add", N: 7, Name: "box"}, -1, api.ErrNone},
		{Edit{Kind: "sheet", Value: "what"}, 0, api.ErrText}, {Edit{Kind: "sheet", Value: "#q { fill: z }\n\n"}, 1, api.ErrText}, {Edit{Kind: "sheet", Value: strings.Repeat("box { fill: a }\n", 41)}, -1, api.ErrFull}, {Edit{Kind: "sheet", Value: strings.Repeat("\n", 10001)}, -1, api.ErrBound},
		{set(1, "x", "what"), 1, api.ErrValue}, {set(3, "h", "2147483648"), 3, api.ErrBound}, {set(2, "show", "yes"), 0, api.ErrCycle}, {Edit{Kind: "unset", N: 2, Name: "show"}, 0, api.ErrCycle}, {Edit{Kind: "add", Name: "use"}, 4, api.ErrValue}, {set(0, "move", "turn"), 0, api.ErrValue},
		{set(1, "rule", "what"), 0, api.ErrValue}, {set(3, "rule", "what"), 1, api.ErrValue}, {set(3, "class", "k"), 1, api.ErrValue}, {Edit{Kind: "sheet", Value: "* { rule: what }\n"}, 0, api.ErrValue}, {Edit{Kind: "sheet", Value: "[x] { rule: what }\n"}, 1, api.ErrValue}, {set(0, "rule", "odd"), 0, api.ErrValue},
	} {
		checkRefused(t, l, c.e, c.at, c.err)
	}
}

// P101: a piece that reaches no row of the picture is not well either; the next element's number is as it was.
func TestDoNothingChanges(t *testing.T) {
	l := start(t, `<group fill="a"><box w="1" h="1"/><box x="50" y="50" w="1" h="1"/><poly/></group>`, "", 2, 2)
	checkRefused(t, l, set(2, "rule", "what"), 1, api.ErrValue)
	checkRefused(t, l, set(3, "rule", "what"), 2, api.ErrValue)
	checkRefused(t, l, Edit{Kind: "add", Name: "use"}, 4, api.ErrValue)
	checkRefused(t, l, Edit{Kind: "add", At: 1, Name: "use"}, 4, api.ErrValue)
	if rows, err := l.Do(Edit{Kind: "add", N: 1, Name: "box"}); len(rows) > 0 || err != nil || l.Doc().Name(4) != "box" {
		t.Error(rows, err, l.Doc().All())
	}
}

// P101: its own document goes on to be its own.
func TestDoc(t *testing.T) {
	l := start(t, `<group><box/></group>`, "", 1, 1)
	d := l.Doc()
	for i, e := range []Edit{{Kind: "add", At: 1, Name: "poly"}, {Kind: "set", N: 2, Name: "k", Value: "v"}, {Kind: "move", N: 1, M: 2}, {Kind: "sheet"}, {Kind: "unset", N: 2, Name: "k"}, {Kind: "remove", N: 2}} {
		if _, err := l.Do(e); err != nil || l.Doc() != d || text(d.Node()) != text(l.Node()) {
			t.Error(i, err, text(d.Node()), text(l.Node()))
		}
	}
	if text(d.Node()) != "<group/>" {
		t.Error(text(d.Node()))
	}
}

// P4: the node is only read, also behind a list's length, and not kept; what is answered is new memory.
func TestOnlyRead(t *testing.T) {
	kids := []mark.Node{{Name: "box", Attrs: []api.Attr{{Name: "w", Value: "2"}, {Name: "h", Value: "1"}, {Name: "x", Value: "what"}}[:2]}, {Name: "Bad"}}
	n := mark.Node{Name: "group", Attrs: []api.Attr{{Name: "fill", Value: "a"}}, Kids: kids[:1]}
	l, err := New(n, "", 2, 2)
	if err != nil || kids[1].Name != "Bad" || text(n) != `<group fill="a"><box w="2" h="1"/></group>` {
		t.Fatal(err, kids)
	}
	n.Attrs[0].Value, kids[0].Attrs[0].Value = "b", "1"
	clear(kids)
	p, node := l.Picture(), l.Node()
	clear(p.Cells)
	clear(node.Kids[0].Attrs)
	clear(node.Kids)
	rows, err := l.Do(set(1, "h", "2"))
	if err != nil || !slices.Equal(rows, []int{0, 1}) || l.Picture().Text() != "aa\naa\n" || text(l.Node()) != `<group fill="a"><box w="2" h="2"/></group>` {
		t.Error(rows, err, l.Picture(), text(l.Node()))
	}
	clear(rows)
	was := l.Picture()
	if _, err := l.Do(set(1, "h", "0")); err != nil || was.Text() != "aa\naa\n" || l.Picture().Text() != "..\n..\n" {
		t.Error(err, was.Text(), l.Picture().Text())
	}
}

// P2: two pictures of one node do not know of each other.
func TestTwo(t *testing.T) {
	n := read(t, beginning)
	a, errA := New(n, "box { fill: z }\n", wide, high)
	b, errB := New(n, "box { fill: z }\n", wide, high)
	if errA != nil || errB != nil {
		t.Fatal(errA, errB)
	}
	was := told(b)
	for _, e := range []Edit{set(1, "fill", "q"), {Kind: "remove", N: 2}, {Kind: "add", Name: "box"}, {Kind: "sheet"}} {
		if _, err := a.Do(e); err != nil {
			t.Error(e, err)
		}
	}
	if told(b) != was {
		t.Error(told(b), "was", was)
	}
}

// P1: edits of any kind and any number end without a panic.
func TestWild(t *testing.T) {
	l := begin(t)
	numbers := []int{0, 1, 3, -1, 1 << 40, math.MaxInt, math.MinInt}
	words := []string{"", "box", "x", "\x00", "é", strings.Repeat("a", 1<<15), "box { fill: a }\n"}
	for _, kind := range []string{"add", "remove", "move", "set", "unset", "sheet", "", "what"} {
		for i, n := range numbers {
			for j, m := range numbers {
				for k, name := range words {
					l.Do(Edit{Kind: kind, N: n, M: m, At: numbers[(i+j+k)%7], Name: name, Value: words[(i+j)%7]})
				}
			}
		}
	}
	if _, err := l.Do(Edit{Kind: "sheet", Value: "box { fill: a }\n"}); err != nil {
		t.Error(err)
	}
	checkFresh(t, l, "box { fill: a }\n")
}

// P1: the most that is to be shown ends soon.
func TestMost(t *testing.T) {
	points := "0,0 " + strings.TrimSpace(strings.Repeat("39,40 40,1/20 ", 14))
	s := `<group fill="a">` + strings.Repeat("<poly/>", api.MaxNodes-1) + `</group>`
	l := start(t, s, "", 40, 40)
	for n := 1; n < api.MaxNodes; n++ {
		if rows, err := l.Do(set(n, "points", points)); len(rows) != 40 || err != nil {
			t.Fatal(n, rows, err)
		}
	}
}
