package move

import (
	"math/bits"

	"leadlight/api"
	"leadlight/frac"
)

// work on right fractions: it keeps the first error, so that a formula is written as one and asked once.
type work struct{ err error }

// do asks nothing more once there is an error: what comes behind would be made of no fractions.
func (w *work) do(how func(a, b api.Frac) (api.Frac, error), a, b api.Frac) api.Frac {
	if w.err != nil {
		return api.Frac{}
	}
	c, err := how(a, b)
	w.err = err
	return c
}

// turned: where p goes, but for E and F.
func (w *work) turned(m Move, p api.Point) api.Point {
	x := w.do(frac.Add, w.do(frac.Mul, m.A, p.X), w.do(frac.Mul, m.C, p.Y))
	y := w.do(frac.Add, w.do(frac.Mul, m.B, p.X), w.do(frac.Mul, m.D, p.Y))
	return api.Point{X: x, Y: y}
}

// moved: where p goes.
func (w *work) moved(m Move, p api.Point) api.Point {
	q := w.turned(m, p)
	return api.Point{X: w.do(frac.Add, q.X, m.E), Y: w.do(frac.Add, q.Y, m.F)}
}

func (w *work) answer(m Move) (Move, error) {
	if w.err != nil {
		return Move{}, w.err
	}
	return m, nil
}

func opposite(a api.Frac) api.Frac { return api.Frac{Num: -a.Num, Den: a.Den} }

// product of any size that four parts can make.
type product struct {
	below     bool
	high, low uint64
}

// flat: A D - B C is 0. It is asked without fractions, because A D and B C may be the same and both be too great for one.
func (m Move) flat() bool {
	return overDens(m.A, m.D, m.B, m.C) == overDens(m.B, m.C, m.A, m.D)
}

// overDens is a's Num times b's Num times the Dens of c and d.
func overDens(a, b, c, d api.Frac) product {
	n := int64(a.Num) * int64(b.Num)
	high, low := bits.Mul64(uint64(max(n, -n)), uint64(c.Den)*uint64(d.Den))
	return product{below: n < 0, high: high, low: low}
}
