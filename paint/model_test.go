package paint

import (
	"math/big"
	"math/rand/v2"
	"reflect"
	"slices"
	"strconv"
	"strings"
	"sync"
	"testing"

	"leadlight/api"
	"leadlight/frac"
	"leadlight/plain"
	"leadlight/scene"
)

// some pieces, from a fixed beginning.
type some struct{ *rand.Rand }

// part of a point, mostly of those whose edges go through centres.
func (s some) part() api.Frac {
	den := []int{1, 2, 2, 3, 20}[s.IntN(5)]
	a, _ := frac.Make(s.IntN(14*den)-2*den, den)
	return a
}

func (s some) piece() scene.Piece {
	p := scene.Piece{Node: s.IntN(9), Level: s.IntN(9), Fill: []string{"a", "b", "c", "dd", "", "."}[s.IntN(6)], Rule: []string{"wind", "even"}[s.IntN(2)]}
	for range s.IntN(9) {
		p.Shape.Points = append(p.Shape.Points, at(s.part(), s.part()))
	}
	return p
}

func (s some) pieces(most int) []scene.Piece {
	var l []scene.Piece
	for range s.IntN(most + 1) {
		l = append(l, s.piece())
	}
	return l
}

func rat(a api.Frac) *big.Rat { return big.NewRat(int64(a.Num), int64(a.Den)) }

// around a point: the edges that it sees to its right at its own height, up and down, in numbers without a bound.
func around(l []api.Point, x, y *big.Rat) (up, down int) {
	for i, from := range l {
		to := l[(i+1)%len(l)]
		a, b := rat(from.Y).Cmp(y) <= 0, rat(to.Y).Cmp(y) <= 0
		if a == b {
			continue
		}
		slope := new(big.Rat).Quo(new(big.Rat).Sub(rat(to.X), rat(from.X)), new(big.Rat).Sub(rat(to.Y), rat(from.Y)))
		meets := slope.Mul(slope, new(big.Rat).Sub(y, rat(from.Y)))
		if meets.Add(meets, rat(from.X)).Cmp(x) <= 0 {
			continue
		}
		if a {
			up++
		} else {
			down++
		}
	}
	return up, down
}

// painted by another way: piece over piece, each into every cell that it holds.
func painted(l []scene.Piece, w, h int) []string {
	cells := make([]string, w*h)
	for i := range cells {
		cells[i] = "."
	}
	for _, s := range l {
		for i := range cells {
			up, down := around(s.Shape.Points, big.NewRat(int64(2*(i%w)+1), 2), big.NewRat(int64(2*(i/w)+1), 2))
			if s.Rule == "wind" && up != down || s.Rule == "even" && (up+down)%2 == 1 {
				cells[i] = s.Fill
			}
		}
	}
	return cells
}

// P90, P91: many lists of pieces against the other way, with their texts and counts.
func TestPaintExact(t *testing.T) {
	r := some{rand.New(rand.NewPCG(9, 90))}
	seen := map[string]int{}
	for range 300 {
		l, w, h := r.pieces(8), 1+r.IntN(12), 1+r.IntN(12)
		p, err := Paint(l, w, h)
		want := painted(l, w, h)
		if p.W != w || p.H != h || !slices.Equal(p.Cells, want) || err != nil {
			t.Fatal(l, w, h, p, err, "want", want)
		}
		for y := range api.MaxSide {
			row, err := Row(l, w, y)
			if len(row) != w || err != nil || y < h && !slices.Equal(row, want[y*w:y*w+w]) {
				t.Fatal(l, w, y, row, err)
			}
		}
		lookedAt(t, p)
		for _, s := range want {
			seen[s]++
		}
	}
	for _, s := range []string{"a", "b", "c", "dd", "", "."} {
		if seen[s] < 500 {
			t.Error("too few:", s, seen[s])
		}
	}
}

// lookedAt: Text and Count against the cells, one by one.
func lookedAt(t *testing.T, p Picture) {
	t.Helper()
	lines := strings.SplitAfter(p.Text(), "\n")
	if len(lines) != p.H+1 || lines[p.H] != "" {
		t.Fatalf("%q", lines)
	}
	for i, s := range p.Cells {
		if line := lines[i/p.W]; len(line) != p.W+1 || line[i%p.W] != (s + "?")[0] {
			t.Fatalf("%d %q: %q", i, s, line)
		}
	}
	names, many := p.Count()
	if len(names) != len(many) || !slices.IsSorted(names) {
		t.Fatal(names, many)
	}
	sum := 0
	for i, name := range names {
		n := len(slices.DeleteFunc(slices.Clone(p.Cells), func(s string) bool { return s != name }))
		if n != many[i] || n == 0 || i > 0 && names[i-1] == name {
			t.Fatal(names, many)
		}
		sum += n
	}
	if sum != len(p.Cells) {
		t.Fatal(names, many)
	}
}

// P90: a picture is the beginning of a greater one; a piece that is hidden, or shows nowhere, makes no difference.
func TestPaintParts(t *testing.T) {
	r := some{rand.New(rand.NewPCG(9, 91))}
	for range 200 {
		l := r.pieces(6)
		whole, err := Paint(l, api.MaxSide, api.MaxSide)
		if err != nil {
			t.Fatal(err)
		}
		w, h := 1+r.IntN(api.MaxSide), 1+r.IntN(api.MaxSide)
		part, err := Paint(l, w, h)
		if err != nil {
			t.Fatal(err)
		}
		for i, s := range part.Cells {
			if s != whole.Cells[i/w*api.MaxSide+i%w] {
				t.Fatal(l, w, h, i, s)
			}
		}
		more := slices.Concat(pieces(t, "far wind 41,0 50,0 50,50 41,50"), l, pieces(t, "far wind ", "far even 0,-5 40,-5 40,0 0,0"))
		if p, err := Paint(more, w, h); !Same(p, part) || err != nil {
			t.Fatal(l, p, err)
		}
		if p, err := Paint(slices.Concat(l, l), w, h); !Same(p, part) || err != nil {
			t.Fatal(l, p, err)
		}
	}
}

// P4, P3: pieces are only read, also behind the length; what is written into an answer, or later into the pieces, shows nowhere else.
func TestOnlyRead(t *testing.T) {
	long := pieces(t, "a wind 0,0 2,0 2,2 0,2", "b wind 50,50 51,50 51,51", "c even 1,1 3,1 3,3 1,3", "d wind 0,0 9,0 9,9 0,9")
	l := long[:3]
	var kept []scene.Piece
	for _, s := range long {
		s.Shape.Points = slices.Clone(s.Shape.Points)
		kept = append(kept, s)
	}
	p, err := Paint(l, 3, 3)
	row, err2 := Row(l, 3, 0)
	if p.Text() != "aa.\nacc\n.cc\n" || strings.Join(row, "") != "aa." || err != nil || err2 != nil {
		t.Fatal(p, row, err, err2)
	}
	names, many := p.Count()
	_, _ = Reaches(l[0], 1), Same(p, p)
	if !reflect.DeepEqual(long, kept) {
		t.Error("changed:", long)
	}
	clear(names)
	clear(many)
	clear(row)
	if q, err := Paint(l, 3, 3); !Same(p, q) || err != nil {
		t.Error(q, err)
	}
	for _, s := range long {
		clear(s.Shape.Points)
	}
	clear(long)
	names, many = p.Count()
	if p.Text() != "aa.\nacc\n.cc\n" || !slices.Equal(names, []string{".", "a", "c"}) || !slices.Equal(many, []int{2, 3, 4}) {
		t.Error(p, names, many)
	}
	clear(p.Cells)
	if !slices.Equal(names, []string{".", "a", "c"}) {
		t.Error(names)
	}
}

func tellAll(tasks [][]scene.Piece) string {
	var b strings.Builder
	for i, l := range tasks {
		p, err := Paint(l, 1+i%9, 1+i%7)
		names, many := p.Count()
		code, place := plain.Code(err)
		b.WriteString(p.Text() + strings.Join(names, ",") + strconv.Itoa(len(many)) + strconv.Itoa(code) + strconv.Itoa(place))
	}
	return b.String()
}

// P2: the same again, behind other calls, and side by side with them.
func TestSideBySide(t *testing.T) {
	r := some{rand.New(rand.NewPCG(9, 2))}
	var tasks [][]scene.Piece
	for i := range 60 {
		l := r.pieces(6)
		if i%10 == 0 {
			l = append(l, scene.Piece{Rule: "what"})
		}
		tasks = append(tasks, l)
	}
	want := tellAll(tasks)
	var wait sync.WaitGroup
	for range 8 {
		wait.Go(func() {
			if got := tellAll(tasks); got != want {
				t.Error(got, "want", want)
			}
		})
	}
	wait.Wait()
}

// P1: the most that is to be done ends soon: many pieces of the most points that reach every row and show nowhere.
func TestMost(t *testing.T) {
	var s scene.Piece
	for i := range api.MaxPoints {
		s.Shape.Points = append(s.Shape.Points, at(f(-1000+i, 1), f(1000*(i%2*2-1), 1)))
	}
	s.Rule = "even"
	l := slices.Repeat([]scene.Piece{s}, api.MaxNodes)
	p, err := Paint(l, api.MaxSide, api.MaxSide)
	names, many := p.Count()
	if len(names) != 1 || names[0] != "." || many[0] != 1600 || err != nil {
		t.Error(names, many, err)
	}
}
