package shape

import (
	"math"
	"slices"
	"testing"

	"leadlight/api"
	"leadlight/move"
	"leadlight/plain"
)

const most = api.MaxPart

func f(num, den int) api.Frac { return api.Frac{Num: num, Den: den} }

func whole(n int) api.Frac { return f(n, 1) }

func at(x, y int) api.Point { return api.Point{X: whole(x), Y: whole(y)} }

func of(points ...api.Point) Shape { return Shape{Points: points} }

// many points, all right.
func many(n int) Shape {
	var s Shape
	for i := range n {
		s.Points = append(s.Points, at(i, i%3))
	}
	return s
}

func read(t testing.TB, text string) Shape {
	t.Helper()
	s, err := Read(text)
	if err != nil {
		t.Fatal(text, err)
	}
	return s
}

func moveOf(t testing.TB, text string) move.Move {
	t.Helper()
	m, err := move.Read(text)
	if err != nil {
		t.Fatal(text, err)
	}
	return m
}

func same(a, b Shape) bool { return slices.Equal(a.Points, b.Points) }

// told asks for an error by its number and place (-1: bare, and the very error).
func told(err, want error, place int) bool {
	code, _ := plain.Code(want)
	got, where := plain.Code(err)
	return got == code && where == place && (place >= 0 || err == want)
}

// notRight: fractions that frac.Check refuses, with its error.
func notRight() map[api.Frac]error {
	return map[api.Frac]error{
		{}: api.ErrShape, f(2, 4): api.ErrShape, f(0, 3): api.ErrShape, f(1, -1): api.ErrShape, f(1, math.MinInt): api.ErrShape, f(math.MinInt, 2): api.ErrShape, f(2000, 2): api.ErrShape,
		f(most+1, 1): api.ErrBound, f(-most-1, 1): api.ErrBound, f(1, most+1): api.ErrBound, f(math.MinInt, 1): api.ErrBound, f(math.MaxInt, 1): api.ErrBound, f(1, math.MaxInt): api.ErrBound,
	}
}

// great: right fractions that are too great for a point.
func great() []api.Frac {
	return []api.Frac{whole(1001), whole(-1001), f(20001, 20), f(-20001, 20), f(2001, 2), f(-2001, 2), f(1, 21), f(-1, 21), f(20, 21), f(1, most), f(most-1, most), whole(most), whole(-most), f(most, most-1), f(21001, 21)}
}

// utmost: fractions that are just small enough for a point.
func utmost() []api.Frac {
	return []api.Frac{whole(0), whole(1000), whole(-1000), f(19999, 20), f(-19999, 20), f(1, 20), f(-1, 20), f(1999, 2), f(18999, 19), f(-18999, 19)}
}

// P70: how many points there may be, how great and how fine.
func TestCheck(t *testing.T) {
	for _, n := range []int{0, 1, 2, 3, 29, api.MaxPoints} {
		if err := many(n).Check(); err != nil {
			t.Error(n, err)
		}
	}
	for _, n := range []int{api.MaxPoints + 1, 32, 1000} {
		if err := many(n).Check(); !told(err, api.ErrBound, -1) {
			t.Error(n, err)
		}
	}
	for _, s := range []Shape{{}, {Points: []api.Point{}}, of(at(1, 1), at(1, 1), at(1, 1))} {
		if err := s.Check(); err != nil {
			t.Error(s, err)
		}
	}
	for _, a := range utmost() {
		for _, b := range utmost() {
			if err := of(at(0, 0), api.Point{X: a, Y: b}).Check(); err != nil {
				t.Error(a, b, err)
			}
		}
	}
}

// P70: a point that is not right, or too great, tells its place; X is asked ahead of Y, and both of them ahead of the sizes.
func TestCheckPoints(t *testing.T) {
	for place := range 4 {
		s := many(4)
		for a, want := range notRight() {
			for _, p := range []api.Point{{X: a, Y: whole(1)}, {X: whole(1), Y: a}, {X: f(1, 21), Y: a}, {X: a, Y: whole(1001)}} {
				s.Points[place] = p
				if err := s.Check(); !told(err, want, place) {
					t.Error(p, err, "want", want, place)
				}
			}
		}
		for _, a := range great() {
			for _, p := range []api.Point{{X: a, Y: whole(1)}, {X: whole(1), Y: a}, {X: a, Y: a}} {
				s.Points[place] = p
				if err := s.Check(); !told(err, api.ErrBound, place) {
					t.Error(p, err)
				}
			}
		}
	}
}

// P70, P3: which of several errors is told: the count, then the first point that is not right, then the first that is too great.
func TestCheckOrder(t *testing.T) {
	big, shape, bound := at(1001, 0), api.Point{X: whole(0), Y: f(2, 4)}, api.Point{X: whole(most + 1), Y: f(2, 4)}
	long := many(31)
	long.Points[0] = shape
	for i, c := range []struct {
		s    Shape
		want error
		at   int
	}{
		{long, api.ErrBound, -1}, {Shape{Points: make([]api.Point, 31)}, api.ErrBound, -1}, {Shape{Points: make([]api.Point, 30)}, api.ErrShape, 0},
		{of(at(0, 0), big, at(0, 0), big), api.ErrBound, 1}, {of(at(0, 0), shape, bound), api.ErrShape, 1}, {of(at(0, 0), bound, shape), api.ErrBound, 1},
		{of(big, at(0, 0), shape), api.ErrShape, 2}, {of(big, bound, shape), api.ErrBound, 1}, {of(shape, big), api.ErrShape, 0},
		{of(api.Point{X: f(1, 0), Y: whole(most + 1)}), api.ErrShape, 0}, {of(api.Point{X: whole(most + 1), Y: f(1, 0)}), api.ErrBound, 0},
	} {
		if err := c.s.Check(); !told(err, c.want, c.at) {
			t.Error(i, err, "want", c.want, c.at)
		}
	}
}

// P70: the four corners, in their order; sides may be 0, or below.
func TestBox(t *testing.T) {
	for _, c := range []struct {
		x, y, w, h api.Frac
		want       string
	}{
		{whole(0), whole(0), whole(2), whole(1), "0,0 2,0 2,1 0,1"}, {f(1, 2), whole(-1), whole(3), f(1, 3), "1/2,-1 7/2,-1 7/2,-2/3 1/2,-2/3"},
		{whole(5), whole(7), whole(0), whole(0), "5,7 5,7 5,7 5,7"}, {whole(1), whole(2), whole(-3), whole(-5), "1,2 -2,2 -2,-3 1,-3"},
		{whole(-1000), whole(-1000), whole(2000), whole(2000), "-1000,-1000 1000,-1000 1000,1000 -1000,1000"}, {f(1, 20), f(-1, 20), f(1, 20), f(1, 20), "1/20,-1/20 1/10,-1/20 1/10,0 1/20,0"},
		{f(1, 4), f(1, 5), f(1, 5), f(1, 4), "1/4,1/5 9/20,1/5 9/20,9/20 1/4,9/20"}, {whole(0), whole(1), f(1, 3), f(-1, 3), "0,1 1/3,1 1/3,2/3 0,2/3"},
	} {
		if s, err := Box(c.x, c.y, c.w, c.h); !same(s, read(t, c.want)) || err != nil {
			t.Error(c.want, s, err)
		}
	}
}

// P70, P3: a part that is not right tells its place, the first one ahead of all else; then a sum that is not right; then Check's.
func TestBoxErrors(t *testing.T) {
	for a, want := range notRight() {
		for place := range 4 {
			parts := []api.Frac{whole(most), whole(most), whole(most), whole(most)}
			parts[place] = a
			for i := place + 1; i < 4; i++ {
				parts[i] = f(6, 4)
			}
			if s, err := Box(parts[0], parts[1], parts[2], parts[3]); s.Points != nil || !told(err, want, place) {
				t.Error(parts, s, err, "want", want, place)
			}
		}
	}
	for i, c := range []struct {
		x, y, w, h api.Frac
		at         int
	}{
		{whole(most), whole(0), whole(1), whole(1), -1}, {whole(0), whole(-most), whole(1), whole(-1), -1}, {f(1, most), whole(0), f(1, most-1), whole(0), -1}, {whole(1001), whole(1), whole(0), whole(most), -1}, {whole(0), f(1, most-1), whole(most), f(1, most), -1},
		{whole(1001), whole(0), whole(-1001), whole(0), 0}, {whole(0), whole(-1001), whole(0), whole(1001), 0}, {f(1, 21), whole(0), f(-1, 21), whole(0), 0},
		{whole(1000), whole(0), whole(1), whole(1), 1}, {whole(1000), whole(0), f(1, 20), whole(0), 1}, {f(1, 3), whole(0), f(1, 8), whole(0), 1}, {whole(0), whole(0), whole(most), whole(most), 1}, {f(1, 11), f(1, 11), f(1, 13), f(1, 13), 1},
		{whole(0), whole(1000), whole(1), whole(1), 2}, {whole(0), whole(0), whole(0), whole(-1001), 2}, {whole(0), f(1, 7), whole(0), f(1, 3), 2},
	} {
		if s, err := Box(c.x, c.y, c.w, c.h); s.Points != nil || !told(err, api.ErrBound, c.at) {
			t.Error(i, s, err, "want", c.at)
		}
	}
}

// P70: each point goes where the move takes it, in its order.
func TestMove(t *testing.T) {
	for _, c := range []struct{ shape, move, want string }{
		{"", "turn 1", ""}, {"3,2", "", "3,2"}, {"0,0 2,0 2,1", "move 1 -5", "1,-5 3,-5 3,-4"}, {"0,0 2,0 2,1 0,1", "turn 1", "0,0 0,2 -1,2 -1,0"}, {"1/2,1/3 3,-1/4", "scale 2 -3", "1,-1 6,3/4"},
		{"1,2 3,4", "skew 1/2", "2,2 5,4"}, {"1,0 0,1", "move 1 0 turn 1", "1,1 0,0"}, {"1,2 3,4", "scale 0 0", "0,0 0,0"}, {"1000,-1000 -1000,1000", "turn 2", "-1000,1000 1000,-1000"},
		{"500,0 1/2,0", "scale 2 1", "1000,0 1,0"}, {"1,1/2", "scale 1/20 1/10", "1/20,1/20"}, {"999,0", "move 1 0", "1000,0"},
	} {
		if s, err := read(t, c.shape).Move(moveOf(t, c.move)); !same(s, read(t, c.want)) || err != nil {
			t.Error(c, s, err)
		}
	}
	s := many(api.MaxPoints)
	if moved, err := s.Move(move.One()); !same(moved, s) || err != nil {
		t.Error(moved, err)
	}
}

// P70: the first point that is moved too far, or that At does not take, tells its place.
func TestMoveTooFar(t *testing.T) {
	huge := move.Move{A: whole(1), B: whole(0), C: whole(most), D: whole(1), E: whole(0), F: whole(0)}
	mended := move.Move{A: whole(most), B: whole(0), C: whole(-most), D: whole(1), E: whole(0), F: whole(0)}
	for i, c := range []struct {
		s  string
		m  move.Move
		at int
	}{
		{"0,0 1000,0", moveOf(t, "move 1/20 0"), 1}, {"0,0 -1000,0 1000,0", moveOf(t, "move 0 -1001"), 0}, {"0,0 2,3 4,3", moveOf(t, "scale 300 1"), 2}, {"0,0 1,0 0,1001/2", moveOf(t, "scale 1 2"), 2},
		{"0,0 1,1 1,1/20", moveOf(t, "scale 1 1/2"), 2}, {"7,7 1,7 1,1", moveOf(t, "scale 1/21 1"), 1}, {"0,0", moveOf(t, "move 1/21 0"), 0}, {"0,0", moveOf(t, "move 0 -1/21"), 0},
		{"0,0 5,0 5,2 5,3", huge, 2}, {"0,0 0,1", huge, 1}, {"0,0 1,1 2,2", mended, 2}, {"3,0 1001/2,2", huge, 1}, {"3,2 4,4 1000,0", mended, 0},
	} {
		if s, err := read(t, c.s).Move(c.m); s.Points != nil || !told(err, api.ErrBound, c.at) {
			t.Error(i, s, err, "want", c.at)
		}
	}
	if s, err := (Shape{}).Move(huge); s.Points != nil || err != nil {
		t.Error(s, err)
	}
}

// P70, P3: the move is asked ahead of the shape, and both ahead of the points' ways.
func TestMoveErrors(t *testing.T) {
	wrong := move.One()
	wrong.D, wrong.F = whole(most+1), f(2, 4)
	long, bad, big := many(31), of(at(0, 0), at(0, 0), api.Point{X: whole(1), Y: f(2, 4)}), of(at(0, 0), at(0, -1001))
	far := moveOf(t, "move 1001 0")
	for i, c := range []struct {
		s    Shape
		m    move.Move
		want error
		at   int
	}{
		{Shape{}, move.Move{}, api.ErrShape, 0}, {many(3), move.Move{}, api.ErrShape, 0}, {long, wrong, api.ErrBound, 3}, {bad, wrong, api.ErrBound, 3}, {big, wrong, api.ErrBound, 3},
		{long, move.One(), api.ErrBound, -1}, {long, far, api.ErrBound, -1}, {bad, move.One(), api.ErrShape, 2}, {bad, far, api.ErrShape, 2}, {big, far, api.ErrBound, 1}, {big, moveOf(t, "scale 0 0"), api.ErrBound, 1},
	} {
		if s, err := c.s.Move(c.m); s.Points != nil || !told(err, c.want, c.at) {
			t.Error(i, s, err, "want", c.want, c.at)
		}
	}
}

// P4, P3: what is handed over stays, what is answered is new memory, and nothing behind a list's length is read or written.
func TestMemory(t *testing.T) {
	behind := api.Point{X: f(1, 0), Y: whole(most)}
	room := []api.Point{at(0, 0), at(4, 0), at(4, 3), behind, behind}
	s := Shape{Points: room[:3]}
	a, err := s.Move(move.One())
	b, err2 := s.Move(move.One())
	n, err3 := s.Wind(at(3, 1))
	if err != nil || err2 != nil || err3 != nil || n != 1 || s.Check() != nil {
		t.Fatal(err, err2, err3, n)
	}
	a.Points[0] = at(9, 9)
	a.Points = append(a.Points, at(8, 8))
	if !same(b, s) || !slices.Equal(room, []api.Point{at(0, 0), at(4, 0), at(4, 3), behind, behind}) {
		t.Error(b, room)
	}
	x, _ := Box(whole(0), whole(0), whole(1), whole(1))
	x.Points[0], x.Points[2] = at(9, 9), at(9, 9)
	if y, _ := Box(whole(0), whole(0), whole(1), whole(1)); !same(y, read(t, "0,0 1,0 1,1 0,1")) {
		t.Error(y)
	}
}
