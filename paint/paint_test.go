package paint

import (
	"slices"
	"strings"
	"testing"

	"leadlight/api"
	"leadlight/doc"
	"leadlight/mark"
	"leadlight/scene"
	"leadlight/shape"
	"leadlight/style"
)

func f(num, den int) api.Frac { return api.Frac{Num: num, Den: den} }

func whole(n int) api.Frac { return f(n, 1) }

func shapeOf(t testing.TB, points string) shape.Shape {
	t.Helper()
	s, err := shape.Read(points)
	if err != nil {
		t.Fatal(points, err)
	}
	return s
}

// piece by a text: FILL RULE and its points.
func piece(t testing.TB, text string) scene.Piece {
	t.Helper()
	words := strings.SplitN(text, " ", 3)
	return scene.Piece{Fill: words[0], Rule: words[1], Shape: shapeOf(t, words[2])}
}

func pieces(t testing.TB, texts ...string) []scene.Piece {
	t.Helper()
	var l []scene.Piece
	for _, s := range texts {
		l = append(l, piece(t, s))
	}
	return l
}

// checkText paints, and asks for each row alone too; rows of want are parted by blanks.
func checkText(t *testing.T, l []scene.Piece, want string) {
	t.Helper()
	rows := strings.Fields(want)
	w, h := len(rows[0]), len(rows)
	p, err := Paint(l, w, h)
	if s := p.Text(); s != strings.Join(rows, "\n")+"\n" || err != nil || p.W != w || p.H != h || len(p.Cells) != w*h {
		t.Errorf("%v %v, want %s\n%s", p, err, want, s)
		return
	}
	for y := range h {
		if row, err := Row(l, w, y); !slices.Equal(row, p.Cells[y*w:y*w+w]) || err != nil {
			t.Error(y, row, err)
		}
	}
}

// P90: a cell shows the piece that holds its centre: rows from the top on, edges as Holds has them.
func TestPaint(t *testing.T) {
	for _, c := range []struct{ piece, want string }{
		{"a wind ", "... ..."}, {"a wind 0,0 2,0 2,1 0,1", "aa. ..."}, {"a wind 0,1 1,1 1,2 0,2", "... a.."}, {"a wind -9,-9 9,-9 9,9 -9,9", "aaa aaa"}, {"a even -9,-9 9,-9 9,9 -9,9", "aaa aaa"},
		{"a wind 1,0 1,1 2,1 2,0", ".a. ..."}, {"a wind 0,0 3,0 3,1/2 0,1/2", "... ..."}, {"a wind 0,0 3,0 3,11/20 0,11/20", "aaa ..."}, {"a wind 0,1/2 3,1/2 3,1 0,1", "aaa ..."}, {"a wind 0,11/20 3,11/20 3,1 0,1", "... ..."},
		{"a wind 0,0 1/2,0 1/2,2 0,2", "... ..."}, {"a wind 0,0 11/20,0 11/20,2 0,2", "a.. a.."}, {"a wind 1/2,0 1,0 1,2 1/2,2", "a.. a.."}, {"a wind 11/20,0 1,0 1,2 11/20,2", "... ..."},
		{"a wind 1/2,1/2", "... ..."}, {"a wind 0,0 3,3", "... ..."}, {"a wind 0,0 4,0 0,4", "aaa. aa.. a... ...."}, {"a wind 5,5 9,5 9,9", "... ..."}, {"a wind 1000,1000 -1000,1000 -1000,-1000 1000,-1000", "aa aa"},
		{"a wind 0,0 5,0 5,5 0,5 0,0 1,1 4,1 4,4 1,4 1,1", "aaaaa aaaaa aaaaa aaaaa aaaaa"}, {"a even 0,0 5,0 5,5 0,5 0,0 1,1 4,1 4,4 1,4 1,1", "aaaaa a...a a...a a...a aaaaa"},
		{"a wind 0,0 5,0 5,5 0,5 0,0 1,1 1,4 4,4 4,1 1,1", "aaaaa a...a a...a a...a aaaaa"}, {"a wind 39,39 40,39 40,40 39,40", strings.Repeat(strings.Repeat(".", 40)+" ", 39) + strings.Repeat(".", 39) + "a"},
	} {
		checkText(t, pieces(t, c.piece), c.want)
	}
	checkText(t, nil, ".")
	checkText(t, []scene.Piece{}, ".... ....")
	checkText(t, nil, strings.TrimSpace(strings.Repeat(strings.Repeat(".", 40)+" ", 40)))
	checkText(t, pieces(t, "a wind 0,0 1,0 1,1 0,1"), "a")
}

// P90: of several ones the last one shows, whatever its Level, Node and Fill, by its own rule.
func TestLastShows(t *testing.T) {
	a, b, c := "a wind 0,0 3,0 3,2 0,2", "b wind 1,0 4,0 4,3 1,3", "c even 0,0 4,0 4,3 0,3 0,0 2,0 2,3 0,3"
	checkText(t, pieces(t, a, b), "abbb abbb .bbb")
	checkText(t, pieces(t, b, a), "aaab aaab .bbb")
	checkText(t, pieces(t, a, b, c), "abcc abcc .bcc")
	checkText(t, pieces(t, c, b, a), "aaab aaab .bbb")
	checkText(t, pieces(t, a, b, a, b, a), "aaab aaab .bbb")
	l := pieces(t, a, b)
	l[0].Level, l[0].Node = 9, 9
	l[1].Level, l[1].Node = -9, -9
	checkText(t, l, "abbb abbb .bbb")
	l[1].Fill = "."
	checkText(t, l, "a... a... ....")
	l[1].Fill = ""
	checkText(t, l, "a??? a??? .???")
	l[1].Fill = "none"
	checkText(t, l, "annn annn .nnn")
	for _, fill := range []string{"", "none", ".", "a b", "\x00", "é", "\xff\xfe"} {
		l[1].Fill = fill
		p, err := Paint(l, 2, 1)
		if !slices.Equal(p.Cells, []string{"a", fill}) || err != nil {
			t.Errorf("%q %v", p.Cells, err)
		}
	}
}

// P90: a document's pieces, from its text on.
func TestPaintScene(t *testing.T) {
	n, err := mark.Read(`<group fill="a" move="move 1 0"><box id="p" w="3" h="1"/><use of="p" move="turn 1"/><poly class="k" points="0,0 4,0 0,4"/><box x="4" w="1" h="1" fill="none"/></group>`)
	if err != nil {
		t.Fatal(err)
	}
	d, err := doc.New(n)
	if err != nil {
		t.Fatal(err)
	}
	for rules, want := range map[string]string{
		"": "aaaa.. aaa... aa.... ......", ".k { fill: k }\n": "akkk.. akk... ak.... ......", ".k { fill: k }\nbox { level: 1 }\n": "aaaa.. akk... ak.... ......", "* { show: no }\n": "...... ......",
	} {
		l, err := style.Read(rules)
		if err != nil {
			t.Fatal(err)
		}
		s, err := scene.Pieces(d, l)
		if err != nil {
			t.Fatal(err)
		}
		checkText(t, s, want)
	}
}

// The document's example: a box of sides 2 and 1 at (0, 0) shows in the cells 0 and 1 of row 0.
func TestExample(t *testing.T) {
	s, err := shape.Box(whole(0), whole(0), whole(2), whole(1))
	if err != nil {
		t.Fatal(err)
	}
	l := []scene.Piece{{Shape: s, Fill: "box", Rule: "wind"}}
	for y, want := range [][]string{{"box", "box", ".", "."}, {".", ".", ".", "."}} {
		if row, err := Row(l, 4, y); !slices.Equal(row, want) || err != nil {
			t.Error(y, row, err)
		}
	}
}

// P90: a row may be asked for that lies behind a picture's last one, up to MaxSide.
func TestRow(t *testing.T) {
	l := pieces(t, "a wind 0,0 1,0 1,40 0,40", "b even 1,39 3,39 3,41 1,41")
	for y, want := range map[int]string{0: "a...", 1: "a...", 38: "a...", 39: "abb."} {
		if row, err := Row(l, 4, y); strings.Join(row, "") != want || err != nil {
			t.Error(y, row, err)
		}
	}
	for _, w := range []int{1, 2, 39, api.MaxSide} {
		want := ("abb" + strings.Repeat(".", 40))[:w]
		if row, err := Row(l, w, 39); strings.Join(row, "") != want || err != nil {
			t.Error(w, row, err)
		}
	}
}
