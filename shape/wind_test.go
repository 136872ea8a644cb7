package shape

import (
	"strings"
	"sync"
	"testing"

	"leadlight/api"
	"leadlight/frac"
)

func point(t testing.TB, text string) api.Point {
	t.Helper()
	return read(t, text).Points[0]
}

// P71, P72: shapes and points with what is told of them; turned around, Wind is the opposite and Cross the same.
func TestWind(t *testing.T) {
	const (
		box   = "0,0 4,0 4,3 0,3"
		cone  = "0,0 4,2 0,4"
		notch = "0,0 6,0 6,4 3,1 0,4"
		star  = "0,6 4,-6 8,6 -2,-1 10,-1"
		eight = "0,0 4,4 4,0 0,4"
		inner = "0,0 9,0 9,9 0,9 0,0 3,3 6,3 6,6 3,6 3,3"
		hole  = "0,0 9,0 9,9 0,9 0,0 3,3 3,6 6,6 6,3 3,3"
	)
	for _, c := range []struct {
		shape, p    string
		wind, cross int
	}{
		{box, "3/2,3/2", 1, 1}, {box, "-1,1", 0, 2}, {box, "5,1", 0, 0}, {box, "1,-1", 0, 0}, {box, "1,4", 0, 0}, {box, "-1,-1", 0, 0},
		{box, "0,0", 1, 1}, {box, "4,0", 0, 0}, {box, "4,3", 0, 0}, {box, "0,3", 0, 0}, {box, "2,0", 1, 1}, {box, "2,3", 0, 0}, {box, "0,1", 1, 1}, {box, "4,1", 0, 0}, {box, "-1,0", 0, 2}, {box, "-1,3", 0, 0},
		{box, "79/20,59/20", 1, 1}, {box, "81/20,59/20", 0, 0}, {box, "79/20,61/20", 0, 0}, {box, "-1/20,1/20", 0, 2},
		{cone, "1,2", 1, 1}, {cone, "4,2", 0, 0}, {cone, "0,2", 1, 1}, {cone, "-1,2", 0, 2}, {cone, "-1,0", 0, 2}, {cone, "0,0", 0, 0}, {cone, "0,4", 0, 0}, {cone, "2,1", 0, 0}, {cone, "39/20,1", 1, 1}, {cone, "2,3", 0, 0}, {cone, "39/20,3", 1, 1},
		{notch, "3,1/2", 1, 1}, {notch, "3,1", 1, 1}, {notch, "3,2", 0, 2}, {notch, "1,2", 1, 3}, {notch, "5,2", 1, 1}, {notch, "-1,2", 0, 4}, {notch, "-1,1", 0, 4}, {notch, "-1,4", 0, 0},
		{star, "4,0", 2, 2}, {star, "2,7/2", 1, 3}, {star, "4,-4", 1, 1}, {star, "4,5", 0, 2}, {star, "0,0", 1, 3}, {star, "-2,-1", 1, 3}, {star, "-3,0", 0, 4},
		{eight, "1/2,2", 1, 3}, {eight, "7/2,2", -1, 1}, {eight, "2,2", -1, 1}, {eight, "-1,2", 0, 4}, {eight, "2,1", 0, 2}, {eight, "2,3", 0, 2},
		{inner, "9/2,9/2", 2, 2}, {inner, "1,9/2", 1, 3}, {inner, "8,9/2", 1, 1}, {hole, "9/2,9/2", 0, 2}, {hole, "1,9/2", 1, 3}, {hole, "8,9/2", 1, 1},
		{box + " " + box, "1,1", 2, 2}, {box + " " + box + " " + box, "1,1", 3, 3}, {"1,1", "1,1", 0, 0}, {"1,1", "0,1", 0, 0}, {"1,1 1,1", "1,1", 0, 0}, {"0,0 4,4", "2,2", 0, 0}, {"0,0 4,4", "1,2", 0, 2}, {"0,0 4,4", "3,2", 0, 0}, {"0,0 4,0", "2,0", 0, 0}, {"0,0 4,0 2,0", "1,0", 0, 0},
	} {
		s, p := read(t, c.shape), point(t, c.p)
		if wind, cross := both(t, s, p); wind != c.wind || cross != c.cross {
			t.Error(c, wind, cross)
		}
		if wind, cross := both(t, turned(s), p); wind != -c.wind || cross != c.cross {
			t.Error("turned", c, wind, cross)
		}
		a, e1 := s.Holds(p, "wind")
		b, e2 := s.Holds(p, "even")
		if a != (c.wind != 0) || b != (c.cross%2 == 1) || e1 != nil || e2 != nil {
			t.Error("holds", c, a, b, e1, e2)
		}
	}
}

func both(t testing.TB, s Shape, p api.Point) (wind, cross int) {
	t.Helper()
	wind, err := s.Wind(p)
	if err != nil {
		t.Fatal(s, p, err)
	}
	cross, err = s.Cross(p)
	if err != nil {
		t.Fatal(s, p, err)
	}
	return wind, cross
}

func turned(s Shape) Shape {
	var back Shape
	for i := len(s.Points) - 1; i >= 0; i-- {
		back.Points = append(back.Points, s.Points[i])
	}
	return back
}

// P71: no point, no edge.
func TestWindOfNothing(t *testing.T) {
	for _, s := range []Shape{{}, {Points: []api.Point{}}} {
		wind, cross := both(t, s, at(0, 0))
		a, e1 := s.Holds(at(0, 0), "wind")
		b, e2 := s.Holds(at(0, 0), "even")
		if wind != 0 || cross != 0 || a || b || e1 != nil || e2 != nil {
			t.Error(wind, cross, a, b, e1, e2)
		}
	}
}

// tells whether all four questions tell this error, and nothing else.
func tells(s Shape, p api.Point, want error, place int) bool {
	wind, e1 := s.Wind(p)
	cross, e2 := s.Cross(p)
	a, e3 := s.Holds(p, "wind")
	b, e4 := s.Holds(p, "even")
	for _, err := range []error{e1, e2, e3, e4} {
		if !told(err, want, place) {
			return false
		}
	}
	return wind == 0 && cross == 0 && !a && !b
}

// P71: a point that is not right, or too great, is told at MaxPoints, whatever the shape is.
func TestWindOfWrongPoint(t *testing.T) {
	for _, s := range []Shape{{}, many(4), many(30)} {
		for a, want := range notRight() {
			for _, p := range []api.Point{{X: a, Y: whole(0)}, {X: whole(0), Y: a}, {X: whole(1001), Y: a}, {X: a, Y: f(1, 21)}} {
				if !tells(s, p, want, api.MaxPoints) {
					t.Error(s, p)
				}
			}
		}
		for _, a := range great() {
			if !tells(s, api.Point{X: a, Y: whole(0)}, api.ErrBound, api.MaxPoints) || !tells(s, api.Point{X: whole(0), Y: a}, api.ErrBound, api.MaxPoints) {
				t.Error(s, a)
			}
		}
		for _, a := range utmost() {
			if _, err := s.Wind(api.Point{X: a, Y: a}); err != nil {
				t.Error(s, a, err)
			}
		}
		if !tells(s, api.Point{X: f(2, 4), Y: whole(most + 1)}, api.ErrShape, api.MaxPoints) || !tells(s, api.Point{X: whole(most + 1), Y: f(2, 4)}, api.ErrBound, api.MaxPoints) {
			t.Error(s)
		}
	}
}

// P71, P3: Check's errors come ahead of the point's.
func TestWindOfWrongShape(t *testing.T) {
	for i, c := range []struct {
		s    Shape
		want error
		at   int
	}{
		{many(31), api.ErrBound, -1}, {of(at(0, 0), api.Point{}), api.ErrShape, 1}, {of(at(0, 0), at(0, 0), at(0, 1001)), api.ErrBound, 2}, {of(at(0, 1001), api.Point{X: whole(1), Y: f(2, 4)}), api.ErrShape, 1}, {of(at(most+1, 0)), api.ErrBound, 0},
	} {
		for _, p := range []api.Point{at(0, 0), {}, at(1001, 0), {X: f(2, 4), Y: whole(0)}, at(most+1, 0)} {
			if !tells(c.s, p, c.want, c.at) {
				t.Error(i, p)
			}
		}
	}
}

// P71: another rule is told ahead of all, also of a wrong shape and a wrong point.
func TestHoldsRule(t *testing.T) {
	for _, rule := range []string{"", "what", "Wind", "wind ", " even", "odd", "evenodd", "nonzero", "win", "wind even"} {
		for _, s := range []Shape{{}, many(3), many(31), of(api.Point{})} {
			for _, p := range []api.Point{at(0, 0), {}, at(1001, 0)} {
				if is, err := s.Holds(p, rule); is || !told(err, api.ErrValue, -1) {
					t.Error(rule, s, p, is, err)
				}
			}
		}
	}
}

// P71: where the two rules part.
func TestHoldsParts(t *testing.T) {
	s := read(t, strings.TrimSpace(strings.Repeat("0,0 4,0 4,3 0,3 ", 2)))
	wind, _ := s.Holds(at(1, 1), "wind")
	even, _ := s.Holds(at(1, 1), "even")
	if !wind || even {
		t.Error(wind, even)
	}
}

// P2: what others ask at the same time makes no difference.
func TestSideBySide(t *testing.T) {
	want := tellAll(t)
	var wait sync.WaitGroup
	for range 8 {
		wait.Go(func() {
			if got := tellAll(t); got != want {
				t.Error(got, "want", want)
			}
		})
	}
	wait.Wait()
}

// tellAll draws a star, moved.
func tellAll(t *testing.T) string {
	s, err := Read("0,6 4,-6 8,6 -2,-1 10,-1")
	m, err2 := s.Move(moveOf(t, "move 1/2 7 scale 1 1/2"))
	if err != nil || err2 != nil {
		t.Error(err, err2)
	}
	out := ""
	for y := range 12 {
		for x := range 12 {
			n, _ := m.Wind(at(x, y))
			k, _ := m.Cross(at(x, y))
			out += frac.Text(whole(n)) + frac.Text(whole(k)) + " "
		}
	}
	return out
}
