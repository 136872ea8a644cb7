package shape

import (
	"math"
	"math/big"
	"math/rand/v2"
	"testing"

	"leadlight/api"
	"leadlight/frac"
	"leadlight/move"
)

func rat(a api.Frac) *big.Rat { return big.NewRat(int64(a.Num), int64(a.Den)) }

func less(a, b *big.Rat) *big.Rat { return new(big.Rat).Sub(a, b) }

func times(a, b *big.Rat) *big.Rat { return new(big.Rat).Mul(a, b) }

// exactSide says P71's formula in numbers without a bound: its sign.
func exactSide(from, to, p api.Point) int {
	a := times(less(rat(to.X), rat(from.X)), less(rat(p.Y), rat(from.Y)))
	b := times(less(rat(p.X), rat(from.X)), less(rat(to.Y), rat(from.Y)))
	return less(a, b).Sign()
}

// exactWind says P71's words in numbers without a bound.
func exactWind(s Shape, p api.Point) (wind, cross int) {
	atMost := func(y api.Frac) bool { return rat(y).Cmp(rat(p.Y)) <= 0 }
	for i, from := range s.Points {
		to := s.Points[0]
		if i+1 < len(s.Points) {
			to = s.Points[i+1]
		}
		switch left := exactSide(from, to, p); {
		case atMost(from.Y) && !atMost(to.Y) && left > 0:
			wind, cross = wind+1, cross+1
		case atMost(to.Y) && !atMost(from.Y) && left < 0:
			wind, cross = wind-1, cross+1
		}
	}
	return wind, cross
}

// some shapes and points, from a fixed beginning.
type some struct{ *rand.Rand }

// part of a size, with any Den that a point may have.
func (s some) part(size int) api.Frac {
	den := 1 + s.IntN(maxDen)
	a, _ := frac.Make(s.IntN(2*size*den+1)-size*den, den)
	return a
}

func (s some) point(size int) api.Point { return api.Point{X: s.part(size), Y: s.part(size)} }

// small points often lie on one line, or at one height.
func (s some) small() api.Point { return at(s.IntN(7)-3, s.IntN(7)-3) }

func (s some) shape(point func() api.Point) Shape {
	var x Shape
	for range s.IntN(api.MaxPoints + 1) {
		x.Points = append(x.Points, point())
	}
	return x
}

// holdsAlike: against the model, and P72's words.
func holdsAlike(t *testing.T, s Shape, p api.Point) (wind, cross int) {
	t.Helper()
	wind, cross = both(t, s, p)
	if w, c := exactWind(s, p); wind != w || cross != c {
		t.Fatal(s, p, wind, cross, "want", w, c)
	}
	if (wind-cross)%2 != 0 || cross < 0 || cross > len(s.Points) || wind > cross || -wind > cross {
		t.Fatal(s, p, wind, cross)
	}
	if w, c := both(t, turned(s), p); w != -wind || c != cross {
		t.Fatal("turned", s, p, w, c, "of", wind, cross)
	}
	a, e1 := s.Holds(p, "wind")
	b, e2 := s.Holds(p, "even")
	if a != (wind != 0) || b != (cross%2 != 0) || e1 != nil || e2 != nil {
		t.Fatal("holds", s, p, a, b, e1, e2)
	}
	return wind, cross
}

// P71, P72: many shapes and points against the model: small ones, where much falls together, and the greatest and finest.
func TestWindExact(t *testing.T) {
	r := some{rand.New(rand.NewPCG(7, 71))}
	seen := map[int]int{}
	for range 1000 {
		for _, point := range []func() api.Point{r.small, func() api.Point { return r.point(3) }, func() api.Point { return r.point(maxSize) }} {
			s := r.shape(point)
			for _, p := range []api.Point{point(), point(), r.small()} {
				wind, _ := holdsAlike(t, s, p)
				seen[wind]++
			}
			if len(s.Points) > 0 {
				holdsAlike(t, s, s.Points[r.IntN(len(s.Points))])
			}
		}
	}
	for _, n := range []int{-3, -2, -1, 0, 1, 2, 3} {
		if seen[n] < 20 {
			t.Error("too few:", n, seen[n])
		}
	}
}

// P71: points that are as near to an edge as can be, where a sum in short numbers would lose them.
func TestWindNear(t *testing.T) {
	r := some{rand.New(rand.NewPCG(7, 72))}
	fine := []int{11, 13, 16, 17, 18, 19, 20}
	on := 0
	for range 5000 {
		end := func(sign int) api.Frac {
			den := fine[r.IntN(len(fine))]
			a, _ := frac.Make(sign*(maxSize*den-r.IntN(3)), den)
			return a
		}
		from, to := api.Point{X: end(-1), Y: end(-1)}, api.Point{X: end(1), Y: end(1)}
		n := r.IntN(2*maxSize-1) - maxSize + 1
		for _, d := range []int{0, 1, -1} {
			den := fine[r.IntN(len(fine))]
			x, _ := frac.Make(n*den+d, den)
			p := api.Point{X: x, Y: whole(n)}
			if exactSide(from, to, p) == 0 {
				on++
			}
			holdsAlike(t, of(from, to, api.Point{X: from.X, Y: to.Y}), p)
			holdsAlike(t, of(to, from, api.Point{X: to.X, Y: from.Y}), p)
		}
	}
	if on < 100 {
		t.Error("too few on an edge:", on)
	}
}

func onEdge(s Shape, p api.Point) bool {
	between := func(a, b, c api.Frac) bool { return rat(a).Cmp(rat(b))*rat(b).Cmp(rat(c)) >= 0 }
	for i, from := range s.Points {
		to := s.Points[(i+1)%len(s.Points)]
		if exactSide(from, to, p) == 0 && between(from.X, p.X, to.X) && between(from.Y, p.Y, to.Y) {
			return true
		}
	}
	return false
}

// byAngles: how often a shape goes around a point that is on none of its edges, by the angles at which its edges are seen from there.
func byAngles(s Shape, p api.Point) int {
	sum := 0.0
	angle := func(q api.Point) float64 {
		x, _ := less(rat(q.X), rat(p.X)).Float64()
		y, _ := less(rat(q.Y), rat(p.Y)).Float64()
		return math.Atan2(y, x)
	}
	for i, from := range s.Points {
		step := angle(s.Points[(i+1)%len(s.Points)]) - angle(from)
		sum += math.Remainder(step, 2*math.Pi)
	}
	return int(math.Round(sum / (2 * math.Pi)))
}

// P71, P70: off the edges, Wind is how often one goes around p; it stays where shape and point are moved, and is the opposite where they are mirrored.
func TestWindGoesAround(t *testing.T) {
	r := some{rand.New(rand.NewPCG(7, 73))}
	moves := map[string]int{"turn 1": 1, "turn 2": 1, "turn 3": 1, "move -5 1/2": 1, "skew 3": 1, "skew -1/2 turn 1": 1, "scale 2 5": 1, "scale -1 1": -1, "scale 1 -3": -1, "scale -1 -1": 1, "scale -2 1 turn 1": -1}
	around := 0
	for range 1500 {
		s := r.shape(r.small)
		p := api.Point{X: f(2*r.IntN(6)-5, 2), Y: f(2*r.IntN(6)-5, 2)}
		if onEdge(s, p) {
			continue
		}
		wind, _ := both(t, s, p)
		if n := byAngles(s, p); n != wind {
			t.Fatal(s, p, wind, "want", n)
		}
		if wind != 0 {
			around++
		}
		for text, sign := range moves {
			a, b := movedBoth(t, s, p, moveOf(t, text))
			if n, _ := both(t, a, b); n != sign*wind {
				t.Fatal(text, s, p, n, "want", sign*wind)
			}
		}
	}
	if around < 300 {
		t.Error("too few around:", around)
	}
}

func movedBoth(t *testing.T, s Shape, p api.Point, m move.Move) (Shape, api.Point) {
	a, err := s.Move(m)
	if err != nil {
		t.Fatal(s, m, err)
	}
	b, err := m.At(p)
	if err != nil {
		t.Fatal(p, m, err)
	}
	return a, b
}

// wild fractions: right ones, and all kinds of others.
func (s some) wild() api.Frac {
	parts := []int{0, 1, 2, 3, 19, 20, 21, 1000, 1001, 20001, most, most + 1, math.MaxInt, math.MaxInt - 1, -1, -20, -1000, -most, -most - 1, math.MinInt, math.MinInt + 1}
	if s.IntN(8) > 0 {
		return s.part(maxSize)
	}
	return f(parts[s.IntN(len(parts))], parts[s.IntN(len(parts))])
}

// exactCheck says P70's words of Check, one error behind the other.
func exactCheck(s Shape) (error, int) {
	if len(s.Points) > api.MaxPoints {
		return api.ErrBound, -1
	}
	for i, p := range s.Points {
		for _, a := range []api.Frac{p.X, p.Y} {
			if err := frac.Check(a); err != nil {
				return err, i
			}
		}
	}
	for i, p := range s.Points {
		for _, a := range []api.Frac{p.X, p.Y} {
			if new(big.Rat).Abs(rat(a)).Cmp(big.NewRat(1000, 1)) > 0 || a.Den > 20 {
				return api.ErrBound, i
			}
		}
	}
	return nil, -1
}

// exactMove says P70's words of Move.
func exactMove(s Shape, m move.Move) (Shape, error, int) {
	if err := m.Check(); err != nil {
		f := err.(*api.Fault)
		return Shape{}, f.Err, f.At
	}
	if err, place := exactCheck(s); err != nil {
		return Shape{}, err, place
	}
	var moved Shape
	for i, p := range s.Points {
		q, err := m.At(p)
		if err == nil {
			err, _ = exactCheck(of(q))
		}
		if err != nil {
			return Shape{}, api.ErrBound, i
		}
		moved.Points = append(moved.Points, q)
	}
	return moved, nil, -1
}

// P70, P1, P3: wild shapes and moves against the words: no panic, the first error, and nothing beside it.
func TestWild(t *testing.T) {
	r := some{rand.New(rand.NewPCG(7, 70))}
	seen := map[error]int{}
	for range 30000 {
		s := Shape{Points: make([]api.Point, r.IntN(6))}
		for i := range s.Points {
			s.Points[i] = api.Point{X: r.wild(), Y: r.wild()}
		}
		want, place := exactCheck(s)
		if err := s.Check(); !told(err, want, place) {
			t.Fatal(s, err, "want", want, place)
		}
		if want != nil && !tells(s, api.Point{X: r.wild(), Y: r.wild()}, want, place) {
			t.Fatal(s)
		}
		m := move.Move{A: whole(1), B: whole(r.IntN(2)), C: r.wild(), D: whole(1), E: r.wild(), F: whole(r.IntN(20) - 10)}
		if r.IntN(2) > 0 {
			m.C, m.E = whole(r.IntN(3)-1), whole(r.IntN(600)-300)
		}
		moved, want, place := exactMove(s, m)
		if got, err := s.Move(m); !same(got, moved) || !told(err, want, place) {
			t.Fatal(s, m, got, err, "want", moved, want, place)
		}
		seen[want]++
		boxAlike(t, r.wild(), r.wild(), r.wild(), r.wild())
	}
	for _, err := range []error{nil, api.ErrBound, api.ErrShape} {
		if seen[err] < 1000 {
			t.Error("too few:", err, seen[err])
		}
	}
}

// boxAlike says P70's words of Box.
func boxAlike(t *testing.T, x, y, w, h api.Frac) {
	t.Helper()
	s, err := Box(x, y, w, h)
	for i, a := range []api.Frac{x, y, w, h} {
		if want := frac.Check(a); want != nil {
			if s.Points != nil || !told(err, want, i) {
				t.Fatal(x, y, w, h, s, err, "want", want, i)
			}
			return
		}
	}
	a, e1 := frac.Add(x, w)
	b, e2 := frac.Add(y, h)
	want, place := api.ErrBound, -1
	made := of(api.Point{X: x, Y: y}, api.Point{X: a, Y: y}, api.Point{X: a, Y: b}, api.Point{X: x, Y: b})
	if e1 == nil && e2 == nil {
		want, place = exactCheck(made)
	}
	if want != nil {
		made = Shape{}
	}
	if !same(s, made) || !told(err, want, place) {
		t.Fatal(x, y, w, h, s, err, "want", made, want, place)
	}
}
