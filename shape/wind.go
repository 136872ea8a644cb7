package shape

import (
	"iter"

	"leadlight/api"
)

// Wind: how often it goes around a point.
func (s Shape) Wind(p api.Point) (int, error) {
	wind, _, err := s.around(p)
	return wind, err
}

// Cross: how many edges count for Wind, whichever way they go.
func (s Shape) Cross(p api.Point) (int, error) {
	_, cross, err := s.around(p)
	return cross, err
}

// Holds a shape a point?
func (s Shape) Holds(p api.Point, rule string) (bool, error) {
	if rule != "wind" && rule != "even" {
		return false, api.ErrValue
	}
	wind, cross, err := s.around(p)
	if rule == "wind" {
		return wind != 0, err
	}
	return cross%2 == 1, err
}

// around p: the sum of the edges' turns, and how many edges turn.
func (s Shape) around(p api.Point) (wind, cross int, err error) {
	if err := s.Check(); err != nil {
		return 0, 0, err
	}
	if err := checkPoint(p); err != nil {
		return 0, 0, &api.Fault{At: api.MaxPoints, Err: err}
	}
	for from, to := range s.edges() {
		turn := turnOf(from, to, p)
		wind += turn
		cross += turn * turn
	}
	return wind, cross, nil
}

func checkPoint(p api.Point) error {
	if err := checkRight(p); err != nil {
		return err
	}
	return checkSize(p)
}

// edges, each from a point to the next one, the last one to the first one.
func (s Shape) edges() iter.Seq2[api.Point, api.Point] {
	return func(yield func(from, to api.Point) bool) {
		for i, p := range s.Points {
			if !yield(p, s.Points[(i+1)%len(s.Points)]) {
				return
			}
		}
	}
}

// turnOf an edge around p: 1, if it rises and p is to its left; -1, if it falls and p is to its right; else 0. (A corner at p's very Y counts as below it: so two edges that go on through it turn once, not twice.)
func turnOf(from, to, p api.Point) int {
	fromAtMost := minus(p.Y, from.Y).num >= 0
	toAtMost := minus(p.Y, to.Y).num >= 0
	switch {
	case fromAtMost && !toAtMost && side(from, to, p) > 0:
		return 1
	case toAtMost && !fromAtMost && side(from, to, p) < 0:
		return -1
	}
	return 0
}

// gap between two fractions, not in lowest terms: of those that are not too great num is below 2 to the 20th in size, den below 2 to the 9th.
type gap struct{ num, den int64 }

func minus(a, b api.Frac) gap {
	num := int64(a.Num)*int64(b.Den) - int64(b.Num)*int64(a.Den)
	return gap{num: num, den: int64(a.Den) * int64(b.Den)}
}

// side of an edge where p is: more than 0 to the left, less to the right. Its products may be too great for fractions; times all Dens they are below 2 to the 58th in size, so int64 holds both.
func side(from, to, p api.Point) int64 {
	width, height := minus(to.X, from.X), minus(to.Y, from.Y)
	x, y := minus(p.X, from.X), minus(p.Y, from.Y)
	return width.num*y.num*x.den*height.den - x.num*height.num*width.den*y.den
}
