package side

import (
	"math"
	"math/rand/v2"
	"reflect"
	"slices"
	"sync"
	"testing"

	"leadlight/api"
	"leadlight/doc"
	"leadlight/frac"
	"leadlight/mark"
	"leadlight/paint"
	"leadlight/scene"
	"leadlight/shape"
)

// wrongWorkers: none of them is from 1 to Workers.
func wrongWorkers() []int {
	return []int{0, -1, -16, api.Workers + 1, api.Workers + 2, 100, 1 << 32, math.MaxInt, math.MinInt}
}

func piece(t testing.TB, fill, rule, points string) scene.Piece {
	t.Helper()
	s, err := shape.Read(points)
	if err != nil {
		t.Fatal(points, err)
	}
	return scene.Piece{Fill: fill, Rule: rule, Shape: s}
}

// somePieces, from a fixed beginning.
func somePieces(r *rand.Rand, most int) []scene.Piece {
	var l []scene.Piece
	part := func() api.Frac {
		den := 1 + r.IntN(4)
		a, _ := frac.Make(r.IntN(44*den)-2*den, den)
		return a
	}
	for range r.IntN(most + 1) {
		s := scene.Piece{Node: r.IntN(9), Level: r.IntN(9), Fill: []string{"a", "b", "cc", "", "."}[r.IntN(5)], Rule: []string{"wind", "even"}[r.IntN(2)]}
		for range r.IntN(9) {
			s.Shape.Points = append(s.Shape.Points, api.Point{X: part(), Y: part()})
		}
		l = append(l, s)
	}
	return l
}

// checkRows by each number of workers: the picture itself.
func checkRows(t *testing.T, l []scene.Piece, w, h int) paint.Picture {
	t.Helper()
	want, err := paint.Paint(l, w, h)
	if err != nil {
		t.Fatal(err)
	}
	for workers := 1; workers <= api.Workers; workers++ {
		p, err := Rows(l, w, h, workers)
		if p.W != w || p.H != h || len(p.Cells) != w*h || !paint.Same(p, want) || err != nil {
			t.Fatal(workers, p, err, "want", want)
		}
	}
	return want
}

// P120: a picture by hand, whose rows are all different.
func TestRows(t *testing.T) {
	l := []scene.Piece{piece(t, "a", "wind", "0,0 4,0 0,4"), piece(t, "bb", "even", "3,1 5,1 5,4 3,4"), piece(t, "c", "wind", "4,3 9,3 9,9 4,9")}
	for workers := 1; workers <= api.Workers; workers++ {
		p, err := Rows(l, 5, 4, workers)
		if s := p.Text(); s != "aaa..\naa.bb\na..bb\n...bc\n" || p.Cells[8] != "bb" || err != nil {
			t.Error(workers, s, err)
		}
	}
}

// P120: the utmost sides, and no pieces.
func TestRowsSides(t *testing.T) {
	r := rand.New(rand.NewPCG(12, 1))
	for _, w := range []int{1, 2, 39, api.MaxSide} {
		for _, h := range []int{1, 2, 15, 16, 17, 39, api.MaxSide} {
			checkRows(t, nil, w, h)
			checkRows(t, []scene.Piece{}, w, h)
			checkRows(t, somePieces(r, 5), w, h)
		}
	}
}

// P120, P121: many pictures, each by every number of workers.
func TestRowsAsPainted(t *testing.T) {
	r := rand.New(rand.NewPCG(12, 120))
	shown := 0
	for range 60 {
		p := checkRows(t, somePieces(r, 12), 1+r.IntN(api.MaxSide), 1+r.IntN(api.MaxSide))
		names, _ := p.Count()
		shown += len(names)
	}
	if shown < 120 {
		t.Error("too few:", shown)
	}
}

// P120: a document's pieces, from its text on.
func TestRowsOfScene(t *testing.T) {
	n, err := mark.Read(`<group fill="a" move="move 1 0"><box id="p" w="3" h="1"/><use of="p" move="turn 1"/><poly fill="k" points="0,0 4,0 0,4"/></group>`)
	if err != nil {
		t.Fatal(err)
	}
	d, err := doc.New(n)
	if err != nil {
		t.Fatal(err)
	}
	l, err := scene.Pieces(d, nil)
	if err != nil {
		t.Fatal(err)
	}
	if s := checkRows(t, l, 6, 4).Text(); s != "akkk..\nakk...\nak....\n......\n" {
		t.Error(s)
	}
}

// isNone: the zero picture.
func isNone(p paint.Picture) bool { return p.W == 0 && p.H == 0 && len(p.Cells) == 0 }

// wrongLists of pieces.
func wrongLists(t *testing.T) [][]scene.Piece {
	well := piece(t, "a", "wind", "0,0 9,0 9,9 0,9")
	rule := scene.Piece{Rule: "what"}
	bound := piece(t, "b", "even", "0,0 1,1")
	bound.Shape.Points[1].X.Num = 1001
	terms := piece(t, "c", "wind", "0,0 1,1 2,2")
	terms.Shape.Points[2].Y = api.Frac{Num: 2, Den: 4}
	many := scene.Piece{Rule: "wind", Shape: shape.Shape{Points: make([]api.Point, api.MaxPoints+1)}}
	both := bound
	both.Rule = "what"
	return [][]scene.Piece{{rule}, {bound}, {terms}, {many}, {both}, make([]scene.Piece, 3), {well, rule}, {well, well, terms, rule}, {well, rule, terms}, {well, bound, terms}, {well, many, well}, slices.Concat(slices.Repeat([]scene.Piece{well}, 50), []scene.Piece{bound})}
}

// P120, P3: workers ahead of all else, told bare; then the sides, also bare.
func TestRowsWrongNumbers(t *testing.T) {
	sides := [][2]int{{0, 1}, {1, 0}, {-1, 5}, {5, -1}, {0, 0}, {api.MaxSide + 1, 1}, {1, api.MaxSide + 1}, {1 << 40, 1 << 40}, {1, math.MaxInt}, {math.MaxInt, 1}, {math.MinInt, 40}, {40, math.MinInt}}
	for _, l := range append(wrongLists(t), nil, []scene.Piece{piece(t, "a", "wind", "0,0 9,0 9,9")}) {
		for _, workers := range wrongWorkers() {
			for _, side := range append(sides, [2]int{3, 2}, [2]int{40, 40}) {
				if p, err := Rows(l, side[0], side[1], workers); !isNone(p) || err != api.ErrShape {
					t.Error(l, side, workers, p, err)
				}
			}
		}
		for workers := 1; workers <= api.Workers; workers++ {
			for _, side := range sides {
				if p, err := Rows(l, side[0], side[1], workers); !isNone(p) || err != api.ErrBound {
					t.Error(l, side, workers, p, err)
				}
			}
		}
	}
}

// P120, P3: the first piece that is not well, with its place, as Paint tells it, by however many.
func TestRowsWrongPieces(t *testing.T) {
	for i, l := range wrongLists(t) {
		_, want := paint.Paint(l, 3, 2)
		f, ok := want.(*api.Fault)
		if !ok {
			t.Fatal(i, want)
		}
		for workers := 1; workers <= api.Workers; workers++ {
			for _, h := range []int{1, 2, api.MaxSide} {
				p, err := Rows(l, 3, h, workers)
				g, ok := err.(*api.Fault)
				if !ok || *g != *f || !isNone(p) {
					t.Error(i, workers, h, p, err, "want", want)
				}
			}
		}
	}
	for i, c := range []struct {
		at  int
		err error
	}{{0, api.ErrValue}, {0, api.ErrBound}, {0, api.ErrShape}, {0, api.ErrBound}, {0, api.ErrBound}, {0, api.ErrValue}, {1, api.ErrValue}, {2, api.ErrShape}, {1, api.ErrValue}, {1, api.ErrBound}, {1, api.ErrBound}, {50, api.ErrBound}} {
		_, err := Rows(wrongLists(t)[i], 5, 5, 4)
		if f, ok := err.(*api.Fault); !ok || f.At != c.at || f.Err != c.err {
			t.Error(i, err, "want", c)
		}
	}
}

// P4, P3: pieces are only read, also behind the length; what is written into an answer, or later into the pieces, shows nowhere else.
func TestRowsOnlyRead(t *testing.T) {
	long := []scene.Piece{piece(t, "a", "wind", "0,0 2,0 2,2 0,2"), piece(t, "b", "wind", "50,50 51,50 51,51"), piece(t, "c", "even", "1,1 3,1 3,3 1,3"), {Rule: "what"}}
	var kept []scene.Piece
	for _, s := range long {
		s.Shape.Points = slices.Clone(s.Shape.Points)
		kept = append(kept, s)
	}
	const text = "aa.\nacc\n.cc\n"
	p, err := Rows(long[:3], 3, 3, 4)
	if p.Text() != text || err != nil || !reflect.DeepEqual(long, kept) {
		t.Fatal(p, err, long)
	}
	q, err := Rows(long[:3], 3, 3, 2)
	clear(q.Cells)
	if p.Text() != text || err != nil {
		t.Error(p, err)
	}
	for _, s := range long {
		clear(s.Shape.Points)
	}
	clear(long)
	if p.Text() != text {
		t.Error(p)
	}
}

// P2: the same again, behind other calls, and side by side with them.
func TestRowsAgain(t *testing.T) {
	r := rand.New(rand.NewPCG(12, 2))
	lists := wrongLists(t)[:3]
	for range 20 {
		lists = append(lists, somePieces(r, 8))
	}
	var wait sync.WaitGroup
	for i := range 8 {
		wait.Go(func() {
			for k, l := range lists {
				want, bad := paint.Paint(l, 1+k, 20)
				p, err := Rows(l, 1+k, 20, 1+(i+k)%api.Workers)
				if !paint.Same(p, want) || !reflect.DeepEqual(err, bad) {
					t.Error(i, k, p, err, "want", want, bad)
				}
			}
		})
	}
	wait.Wait()
}
