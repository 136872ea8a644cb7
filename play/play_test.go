package play

import (
	"math"
	"slices"
	"strings"
	"testing"

	"leadlight/api"
	"leadlight/live"
	"leadlight/mark"
)

const first = `<group id="g"><box id="a" x="1" y="1" w="4" h="3" fill="a"/><poly points="0,0 8,0 4,7" fill="p"/><use of="a" move="move 3 3"/></group>`

// firstRows, by hand: the polygon stands on the box, and the use on both.
const firstRows = `pppppppp....
.pppppp.....
.pppppp.....
.apppp......
...paaaa....
...paaaa....
....aaaa....
............
............
`

func begin(t testing.TB) *live.Live {
	t.Helper()
	l, err := New()
	if err != nil {
		t.Fatal(err)
	}
	return l
}

// text of a picture's document; a fault of it is part of what is told.
func text(l *live.Live) string {
	s, err := mark.Text(l.Node())
	if err != nil {
		return err.Error()
	}
	return s
}

// P110: the document, the sides and the cells that a play begins with.
func TestNew(t *testing.T) {
	l := begin(t)
	if p := l.Picture(); text(l) != first || p.W != 12 || p.H != 9 || p.Text() != firstRows {
		t.Error(text(l), p.W, p.H, p.Text())
	}
	if all := l.Doc().All(); !slices.Equal(all, []int{0, 1, 2, 3}) {
		t.Error(all)
	}
}

// P110: the sheet: the box and its use go by another rule without it, and no other piece does.
func TestNewSheet(t *testing.T) {
	l := begin(t)
	for i, c := range []struct {
		sheet string
		rows  []int
	}{
		{"#a { rule: even }\n", nil},
		{"", []int{1, 2, 3, 4, 5, 6}},
		{"#a { rule: wind }\n", nil},
		{"#a { rule: even }\n", []int{1, 2, 3, 4, 5, 6}},
		{"* { rule: even }\n", []int{0, 1, 2, 3, 4, 5, 6}},
	} {
		if rows, err := l.Do(live.Edit{Kind: "sheet", Value: c.sheet}); err != nil || !slices.Equal(rows, c.rows) {
			t.Error(i, rows, err)
		}
	}
}

// P110, P4: each picture is a new one: what is played with one shows in no other.
func TestNewEach(t *testing.T) {
	a, b := begin(t), begin(t)
	Run(a, []int{8*2 + 5, 8*1 + 2, 8*0 + 4})
	if a == b || text(b) != first || b.Picture().Text() != firstRows || text(begin(t)) != first || text(a) == first {
		t.Error(text(a), text(b))
	}
}

// checkRun of one number, from the beginning: nothing but this part of the text is changed.
func checkRun(t *testing.T, v, want int, old, new string) {
	t.Helper()
	l := begin(t)
	changed := strings.Replace(first, old, new, 1)
	if got := Run(l, []int{v}); !slices.Equal(got, []int{want}) || text(l) != changed {
		t.Error(v, got, "want", want, text(l), "want", changed)
	}
}

// P110: 0 and 1: x, y, w or h of each element, as halves in lowest terms, around again from 12 of them on.
func TestRunSides(t *testing.T) {
	for _, kind := range []int{0, 1} {
		for _, c := range []struct {
			q        int
			old, new string
		}{
			{0, `"g">`, `"g" x="0">`},
			{1, `y="1"`, `y="0"`},
			{2, `"p"/>`, `"p" w="0"/>`},
			{3, `3 3"/>`, `3 3" h="0"/>`},
			{4, `"g">`, `"g" x="1/2">`},
			{5, `y="1"`, `y="1/2"`},
			{10, `"p"/>`, `"p" w="1"/>`},
			{15, `3 3"/>`, `3 3" h="3/2"/>`},
			{16, `"g">`, `"g" x="2">`},
			{21, `y="1"`, `y="5/2"`},
			{25, `y="1"`, `y="3"`},
			{29, `y="1"`, `y="7/2"`},
			{33, `y="1"`, `y="4"`},
			{37, `y="1"`, `y="9/2"`},
			{41, `y="1"`, `y="5"`},
			{45, `y="1"`, `y="11/2"`},
			{46, `"p"/>`, `"p" w="11/2"/>`},
			{47, `3 3"/>`, `3 3" h="11/2"/>`},
			{48, `"g">`, `"g" x="0">`},
			{49, `y="1"`, `y="0"`},
			{53, `y="1"`, `y="1/2"`},
			{95, `3 3"/>`, `3 3" h="11/2"/>`},
			{96, `"g">`, `"g" x="0">`},
		} {
			checkRun(t, 8*c.q+kind, 0, c.old, c.new)
		}
	}
}

// P110: 2: a letter a to d; 3: a move, by fives; 6: yes or no; 7: a level.
func TestRunSets(t *testing.T) {
	for _, c := range []struct {
		v        int
		old, new string
	}{
		{8*0 + 2, `"g">`, `"g" fill="a">`},
		{8*1 + 2, `fill="a"`, `fill="b"`},
		{8*2 + 2, `fill="p"`, `fill="c"`},
		{8*3 + 2, `3 3"/>`, `3 3" fill="d"/>`},
		{8*5 + 2, `fill="a"`, `fill="b"`},
		{8*0 + 3, `"g">`, `"g" move="move 0 0">`},
		{8*1 + 3, `fill="a"/>`, `fill="a" move="move 1 0"/>`},
		{8*3 + 3, `"move 3 3"`, `"move 3 0"`},
		{8*4 + 3, `"g">`, `"g" move="move 4 0">`},
		{8*5 + 3, `fill="a"/>`, `fill="a" move="move 0 1"/>`},
		{8*7 + 3, `"move 3 3"`, `"move 2 1"`},
		{8*23 + 3, `"move 3 3"`, `"move 3 4"`},
		{8*24 + 3, `"g">`, `"g" move="move 4 4">`},
		{8*25 + 3, `fill="a"/>`, `fill="a" move="move 0 0"/>`},
		{8*26 + 3, `"p"/>`, `"p" move="move 1 0"/>`},
		{8*0 + 6, `"g">`, `"g" show="yes">`},
		{8*1 + 6, `fill="a"/>`, `fill="a" show="no"/>`},
		{8*2 + 6, `"p"/>`, `"p" show="yes"/>`},
		{8*3 + 6, `3 3"/>`, `3 3" show="no"/>`},
		{8*101 + 6, `fill="a"/>`, `fill="a" show="no"/>`},
		{8*0 + 7, `"g">`, `"g" level="0">`},
		{8*1 + 7, `fill="a"/>`, `fill="a" level="1"/>`},
		{8*2 + 7, `"p"/>`, `"p" level="2"/>`},
		{8*3 + 7, `3 3"/>`, `3 3" level="3"/>`},
		{8*6 + 7, `"p"/>`, `"p" level="2"/>`},
		{math.MaxInt, `3 3"/>`, `3 3" level="3"/>`},
	} {
		checkRun(t, c.v, 0, c.old, c.new)
	}
}

// P110: 4: a box, in an element, ahead of its children; 5: an element is removed; 3: the root; 10: the use would lead nowhere.
func TestRunAddAndRemove(t *testing.T) {
	for _, c := range []struct {
		v, want  int
		old, new string
	}{
		{8*0 + 4, 0, `"g">`, `"g"><box/>`},
		{8*1 + 4, 0, `fill="a"/>`, `fill="a"><box/></box>`},
		{8*2 + 4, 0, `"p"/>`, `"p"><box/></poly>`},
		{8*3 + 4, 0, `3 3"/>`, `3 3"><box/></use>`},
		{8*4 + 4, 0, `"g">`, `"g"><box/>`},
		{8*0 + 5, 3, ``, ``},
		{8*1 + 5, 10, ``, ``},
		{8*2 + 5, 0, `<poly points="0,0 8,0 4,7" fill="p"/>`, ``},
		{8*3 + 5, 0, `<use of="a" move="move 3 3"/>`, ``},
		{8*4 + 5, 3, ``, ``},
		{-1, -1, ``, ``}, {-8, -1, ``, ``}, {-4, -1, ``, ``}, {math.MinInt, -1, ``, ``},
	} {
		checkRun(t, c.v, c.want, c.old, c.new)
	}
}

// step of a play: a number, its answer, and the document behind it.
type step struct {
	v, want int
	text    string
}

func take(t *testing.T, l *live.Live, steps []step) {
	t.Helper()
	for i, s := range steps {
		if got := Run(l, []int{s.v}); !slices.Equal(got, []int{s.want}) || text(l) != s.text {
			t.Error(i, s.v, got, text(l))
		}
	}
}

// P110: an element is meant by its place in doc.All as it is then, not by its number; behind an error the play goes on.
func TestRunGoesOn(t *testing.T) {
	poly := `<poly points="0,0 8,0 4,7" fill="p"/>`
	take(t, begin(t), []step{
		{8*0 + 4, 0, `<group id="g"><box/><box id="a" x="1" y="1" w="4" h="3" fill="a"/>` + poly + `<use of="a" move="move 3 3"/></group>`},
		{8*2 + 5, 10, `<group id="g"><box/><box id="a" x="1" y="1" w="4" h="3" fill="a"/>` + poly + `<use of="a" move="move 3 3"/></group>`},
		{8*9 + 5, 0, `<group id="g"><box/><box id="a" x="1" y="1" w="4" h="3" fill="a"/>` + poly + `</group>`},
		{8*2 + 5, 0, `<group id="g"><box/>` + poly + `</group>`},
		{8*4 + 2, 0, `<group id="g"><box fill="a"/>` + poly + `</group>`},
		{8*10 + 0, 0, `<group id="g"><box fill="a" w="1"/>` + poly + `</group>`},
		{-1, -1, `<group id="g"><box fill="a" w="1"/>` + poly + `</group>`},
		{8*2 + 4, 0, `<group id="g"><box fill="a" w="1"/>` + poly[:len(poly)-2] + `><box/></poly></group>`},
		{8*3 + 7, 0, `<group id="g"><box fill="a" w="1"/>` + poly[:len(poly)-2] + `><box level="3"/></poly></group>`},
		{8*2 + 5, 0, `<group id="g"><box fill="a" w="1"/></group>`},
		{8*3 + 5, 0, `<group id="g"/>`},
		{8*99 + 5, 3, `<group id="g"/>`},
		{8*99 + 4, 0, `<group id="g"><box/></group>`},
		{8*98 + 6, 0, `<group id="g" show="yes"><box/></group>`},
	})
}

// P110: the picture goes with the play.
func TestRunShows(t *testing.T) {
	none := "............;"
	for i, c := range []struct {
		script []int
		want   string
	}{
		// The box is hidden, and so is what the use leads to.
		{[]int{8*2 + 6, 8*1 + 6}, "pppppppp....;.pppppp.....;.pppppp.....;..pppp......;...pp.......;...pp.......;" + none + none + none},
		// Without the polygon the box goes down to 3, and is b.
		{[]int{8*2 + 5, 8*25 + 1, 8*1 + 2}, none + none + none + ".bbbb.......;.bbbb.......;.bbbb.......;....bbbb....;....bbbb....;....bbbb....;"},
		// The box stands on the polygon.
		{[]int{8*1 + 7}, "pppppppp....;.aaaapp.....;.aaaapp.....;.aaaap......;...paaaa....;...paaaa....;....aaaa....;" + none + none},
		// All is moved by 1 and 3.
		{[]int{8*16 + 3}, none + none + none + ".pppppppp...;..pppppp....;..pppppp....;..apppp.....;....paaaa...;....paaaa...;"},
		// A new box, behind all others: y 5, w 11/2, h 7/2, c.
		{[]int{4, 8*41 + 0, 8*46 + 1, 8*31 + 0, 8*6 + 2}, "pppppppp....;.pppppp.....;.pppppp.....;.apppp......;...paaaa....;cccpaaaa....;ccccaaaa....;ccccc.......;" + none},
	} {
		l := begin(t)
		Run(l, c.script)
		if rows := strings.ReplaceAll(l.Picture().Text(), "\n", ";"); rows != c.want {
			t.Error(i, rows, text(l))
		}
	}
}

// P110: doc's and the scene's bounds: as deep, and as full, as it goes, and one more.
func TestRunMost(t *testing.T) {
	l := begin(t)
	for i := 1; i <= 8; i++ {
		if got := Run(l, []int{8*i + 4}); got[0] != 0 {
			t.Fatal(i, got)
		}
	}
	if got := Run(l, []int{8*9 + 4, 8*8 + 4}); !slices.Equal(got, []int{8, 0}) {
		t.Error("deep", got)
	}
	// With what the use leads to 99 elements are as many as a scene comes to; with the use hidden 100 are.
	add := slices.Repeat([]int{4}, api.MaxNodes)
	l = begin(t)
	if got := Run(l, add); slices.Index(got, 7) != 95 || l.Doc().Count() != 99 || slices.Max(got[:95]) > 0 || slices.Min(got[95:]) < 7 {
		t.Error("full", got)
	}
	l = begin(t)
	if got := Run(l, append([]int{8*3 + 6}, add...)); slices.Index(got, 7) != 97 || l.Doc().Count() != 100 {
		t.Error("full", got)
	}
}

// P110: at most MaxEdits numbers of a script count, and all of them do; of another script as many again.
func TestRunMaxEdits(t *testing.T) {
	script := slices.Repeat([]int{-1}, api.MaxEdits-1)
	script = append(script, 8*1+2, 8*2+2, 5)
	for n, want := range map[int]string{api.MaxEdits - 1: first, api.MaxEdits: strings.Replace(first, `fill="a"`, `fill="b"`, 1), api.MaxEdits + 1: strings.Replace(first, `fill="a"`, `fill="b"`, 1), api.MaxEdits + 2: strings.Replace(first, `fill="a"`, `fill="b"`, 1)} {
		l := begin(t)
		got := Run(l, script[:n])
		if len(got) != min(n, api.MaxEdits) || text(l) != want || n >= api.MaxEdits && got[api.MaxEdits-1] != 0 {
			t.Error(n, got, text(l))
		}
	}
	l := begin(t)
	if a, b := Run(l, script), Run(l, script[2:]); len(a) != api.MaxEdits || len(b) != api.MaxEdits || text(l) != strings.NewReplacer(`fill="a"`, `fill="b"`, `fill="p"`, `fill="c"`).Replace(first) {
		t.Error(len(a), b, text(l))
	}
}

// P110, P4: no numbers; a script is only read, also behind its length, and the answers are new memory.
func TestRunOnlyReads(t *testing.T) {
	l := begin(t)
	if a, b := Run(l, nil), Run(l, []int{}); len(a) > 0 || len(b) > 0 || text(l) != first {
		t.Error(a, b, text(l))
	}
	script := []int{2, -7, 5, 8*1 + 2, 8*1 + 2}
	was := slices.Clone(script)
	got := Run(l, script[:3])
	if !slices.Equal(got, []int{0, -1, 3}) || !slices.Equal(script, was) {
		t.Error(got, script)
	}
	clear(got)
	again := Run(l, script[:3])
	if !slices.Equal(again, []int{0, -1, 3}) || !slices.Equal(script, was) || text(l) != strings.Replace(first, `"g">`, `"g" fill="a">`, 1) {
		t.Error(again, script, text(l))
	}
}

// P1: a picture that live.New did not make.
func TestNotMade(t *testing.T) {
	for _, l := range []*live.Live{nil, {}} {
		if got := Run(l, []int{0, -1, 8*3 + 4, math.MaxInt}); !slices.Equal(got, []int{3, -1, 3, 3}) || Sum(l) != "\n" {
			t.Error(got, Sum(l))
		}
	}
}
