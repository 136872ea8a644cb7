package move

import (
	"errors"
	"math"
	"sync"
	"testing"

	"leadlight/api"
	"leadlight/plain"
)

const most = api.MaxPart

func f(num, den int) api.Frac { return api.Frac{Num: num, Den: den} }

func at(x, y int) api.Point { return api.Point{X: f(x, 1), Y: f(y, 1)} }

// of six whole numbers.
func of(a, b, c, d, e, f int) Move {
	return Move{whole(a), whole(b), whole(c), whole(d), whole(e), whole(f)}
}

// told asks for an error by its number and place (-1: bare, and the very error).
func told(err, want error, place int) bool {
	code, _ := plain.Code(want)
	got, where := plain.Code(err)
	return got == code && where == place && (place >= 0 || err == want)
}

// P20: One has nothing but ones and zeros, and is new each time.
func TestOne(t *testing.T) {
	m := One()
	if m != of(1, 0, 0, 1, 0, 0) || m.Check() != nil {
		t.Error(m, m.Check())
	}
	m.E = f(7, 1)
	if One() != of(1, 0, 0, 1, 0, 0) {
		t.Error(One())
	}
	for _, p := range []api.Point{at(0, 0), at(-3, 8), {X: f(1, most), Y: f(-most, 1)}} {
		if q, err := One().At(p); q != p || err != nil {
			t.Error(p, q, err)
		}
	}
}

// P20: which letter weighs what.
func TestAt(t *testing.T) {
	m := Move{f(1, 2), f(2, 1), f(3, 1), f(5, 1), f(7, 1), f(11, 3)}
	for _, c := range []struct{ p, want api.Point }{
		{at(0, 0), api.Point{X: f(7, 1), Y: f(11, 3)}},
		{at(1, 0), api.Point{X: f(15, 2), Y: f(17, 3)}},
		{at(0, 1), api.Point{X: f(10, 1), Y: f(26, 3)}},
		{api.Point{X: f(-1, 3), Y: f(2, 5)}, api.Point{X: f(241, 30), Y: f(5, 1)}},
	} {
		if q, err := m.At(c.p); q != c.want || err != nil {
			t.Error(c.p, q, err, "want", c.want)
		}
	}
}

// wrong parts, with the error that each of them is told by.
func wrong() map[api.Frac]error {
	return map[api.Frac]error{
		f(0, 0): api.ErrShape, f(2, 4): api.ErrShape, f(0, 3): api.ErrShape, f(1, -1): api.ErrShape, f(1, math.MinInt): api.ErrShape,
		f(most+1, 1): api.ErrBound, f(-most-1, 1): api.ErrBound, f(1, most+1): api.ErrBound, f(math.MinInt, 1): api.ErrBound,
	}
}

func set(m Move, i int, a api.Frac) Move {
	*[]*api.Frac{&m.A, &m.B, &m.C, &m.D, &m.E, &m.F}[i] = a
	return m
}

// P20, P3: the first wrong part tells its place, ahead of all else, and no other result comes with it.
func TestWrongParts(t *testing.T) {
	right, flat, none := of(2, 0, 0, 3, 1, 1), of(0, 0, 0, 0, 0, 0), Move{}
	for a, want := range wrong() {
		for i := range 6 {
			for _, m := range []Move{set(right, i, a), set(flat, i, a)} {
				for j := i + 1; j < 6; j++ {
					m = set(m, j, f(4, 2))
				}
				_, e1 := m.At(at(1, 2))
				p, e2 := m.At(api.Point{})
				x, e3 := Then(m, none)
				y, e4 := Then(right, m)
				z, e5 := m.Back()
				for k, err := range []error{m.Check(), e1, e2, e3, e4, e5} {
					if !told(err, want, i) {
						t.Error(k, m, err, "want", want, i)
					}
				}
				if p != (api.Point{}) || x != none || y != none || z != none {
					t.Error(m, p, x, y, z)
				}
			}
		}
	}
}

// P20: of Then's two, m is asked ahead of n, whatever the places are.
func TestThenAsksFirst(t *testing.T) {
	m, n := set(One(), 5, f(most+1, 1)), set(One(), 0, f(2, 4))
	if _, err := Then(m, n); !told(err, api.ErrBound, 5) {
		t.Error(err)
	}
	if _, err := Then(n, m); !told(err, api.ErrShape, 0) {
		t.Error(err)
	}
}

// P20: a point's wrong X tells 6, its Y 7, behind the move's parts and ahead of the sums.
func TestWrongPoint(t *testing.T) {
	for a, want := range wrong() {
		for _, m := range []Move{One(), of(most, most, most, most, most, most)} {
			for _, c := range []struct {
				p     api.Point
				place int
			}{{api.Point{X: a, Y: f(6, 4)}, 6}, {api.Point{X: a, Y: f(most, 1)}, 6}, {api.Point{X: f(most, 1), Y: a}, 7}} {
				if q, err := m.At(c.p); q != (api.Point{}) || !told(err, want, c.place) {
					t.Error(m, c.p, q, err, "want", want, c.place)
				}
			}
		}
	}
}

// P20: each product and each sum on the way has to be right, though what comes behind would make it right again.
func TestAtBound(t *testing.T) {
	for i, c := range []struct {
		m   Move
		p   api.Point
		err error
	}{
		{of(2, 0, 0, 1, 0, 0), at(most/2, 0), nil}, {of(2, 0, 0, 1, 0, 0), at(most/2+1, 0), api.ErrBound},
		{of(2, 0, 0, 1, -most, 0), at(most/2+1, 0), api.ErrBound},
		{of(2, 0, -2, 1, 0, 0), at(most, most), api.ErrBound},
		{of(0, 0, 2, 1, 0, 0), at(0, most/2+1), api.ErrBound},
		{of(0, 2, 0, 0, 0, 0), at(most/2+1, 0), api.ErrBound},
		{of(0, 0, 0, -2, 0, most), at(0, most/2+1), api.ErrBound},
		{of(1, 0, 1, 0, 0, 0), at(most, 0), nil}, {of(1, 0, 1, 0, 0, 0), at(most, 1), api.ErrBound},
		{of(1, 0, 1, 0, -1, 0), at(most, 1), api.ErrBound}, {of(0, 1, 0, 1, 0, -1), at(most, 1), api.ErrBound},
		{of(1, 0, 0, 1, 1, 0), at(most-1, 0), nil}, {of(1, 0, 0, 1, 1, 0), at(most, 0), api.ErrBound},
		{of(1, 0, 0, 1, 0, -1), at(0, -most), api.ErrBound}, {of(1, 0, -1, 1, 1, 0), at(most, 1), nil},
		{Move{f(1, 2), f(0, 1), f(0, 1), f(1, 1), f(0, 1), f(0, 1)}, api.Point{X: f(1, most), Y: f(0, 1)}, api.ErrBound},
	} {
		q, err := c.m.At(c.p)
		if err != c.err || (err != nil) != (q == api.Point{}) {
			t.Error(i, q, err, "want", c.err)
		}
	}
}

// P20: Then has At's sums: where the products cancel out, but are too great, it tells the bound.
func TestThenBound(t *testing.T) {
	big := of(most, 0, 0, most, 0, 0)
	for i, c := range []struct {
		m, n Move
		err  error
	}{
		{big, One(), nil}, {One(), big, nil}, {big, of(2, 0, 0, 1, 0, 0), api.ErrBound}, {big, of(1, 0, 0, 2, 0, 0), api.ErrBound},
		{of(most, most, 0, 1, 0, 0), of(2, 0, -2, 1, 0, 0), api.ErrBound}, {of(0, 0, most, most, 0, 0), of(1, 2, 0, -2, 0, 0), api.ErrBound},
		{of(1, 0, 0, 1, most, most), of(1, 0, 1, 1, -most, 0), api.ErrBound}, {of(1, 0, 0, 1, most, 0), of(1, 0, 0, 1, -most, 0), nil},
		{of(1, 0, 0, 1, 0, most), of(1, 0, 0, 1, 0, 1), api.ErrBound}, {of(1, 0, 0, 1, most, -most), of(1, 0, 1, 1, 0, 0), nil},
	} {
		o, err := Then(c.m, c.n)
		if err != c.err || (err != nil) != (o == Move{}) {
			t.Error(i, o, err, "want", c.err)
		}
	}
}

// P20: Then is m first, then n.
func TestThen(t *testing.T) {
	up, wide := of(1, 0, 0, 1, 0, 1), of(3, 0, 1, 2, 0, 0)
	if o, err := Then(up, wide); o != of(3, 0, 1, 2, 1, 2) || err != nil {
		t.Error(o, err)
	}
	if o, err := Then(wide, up); o != of(3, 0, 1, 2, 0, 1) || err != nil {
		t.Error(o, err)
	}
}

// P20: which moves can be taken back.
func TestBack(t *testing.T) {
	none := Move{}
	for i, c := range []struct {
		m, want Move
		err     error
	}{
		{One(), One(), nil}, {of(1, 0, 0, 1, 5, -7), of(1, 0, 0, 1, -5, 7), nil}, {of(0, 1, -1, 0, 2, 3), of(0, -1, 1, 0, -3, 2), nil},
		{of(2, 0, 0, -4, 1, 1), Move{f(1, 2), f(0, 1), f(0, 1), f(-1, 4), f(-1, 2), f(1, 4)}, nil},
		{of(1, 2, 3, 4, 5, 6), Move{f(-2, 1), f(1, 1), f(3, 2), f(-1, 2), f(1, 1), f(-2, 1)}, nil},
		{of(0, 0, 0, 0, 0, 0), none, api.ErrZero}, {of(1, 2, 2, 4, 0, 0), none, api.ErrZero}, {of(0, 0, 1, 1, 0, 0), none, api.ErrZero}, {of(0, 1, 0, 1, 9, 9), none, api.ErrZero},
		{of(-6, 4, 3, -2, 0, 0), none, api.ErrZero}, {of(6, 4, 3, -2, 0, 0), Move{f(1, 12), f(1, 6), f(1, 8), f(-1, 4), f(0, 1), f(0, 1)}, nil},
		{of(1, 1, -1, 1, 0, 0), Move{f(1, 2), f(-1, 2), f(1, 2), f(1, 2), f(0, 1), f(0, 1)}, nil},
		{Move{f(1, 2), f(1, 3), f(3, 4), f(1, 2), f(0, 1), f(0, 1)}, none, api.ErrZero},
		{of(most, most, most, most, 0, 0), none, api.ErrZero}, {of(-most, most, most, -most, 0, 0), none, api.ErrZero}, {of(most, most, most, most-1, 0, 0), none, api.ErrBound}, {of(-most, most, most, most, 0, 0), none, api.ErrBound},
		{Move{f(1, most), f(1, most), f(1, most), f(1, most), f(0, 1), f(0, 1)}, none, api.ErrZero},
		{Move{f(-most, 3), f(-most/2, 1), f(most/2, 1), f(3*most/4, 1), f(0, 1), f(0, 1)}, none, api.ErrZero}, {Move{f(-most, 3), f(most/2, 1), f(most/2, 1), f(3*most/4, 1), f(0, 1), f(0, 1)}, none, api.ErrBound},
		{of(most, 0, 0, 1, 0, 0), Move{f(1, most), f(0, 1), f(0, 1), f(1, 1), f(0, 1), f(0, 1)}, nil},
		{Move{f(1, 2), f(0, 1), f(0, 1), f(1, 1), f(most, 1), f(0, 1)}, none, api.ErrBound}, {Move{f(1, 1), f(0, 1), f(0, 1), f(1, 2), f(0, 1), f(most, 1)}, none, api.ErrBound},
		{of(2, 0, most, 1, 0, 0), Move{f(1, 2), f(0, 1), f(-most/2, 1), f(1, 1), f(0, 1), f(0, 1)}, nil}, {Move{f(1, 2), f(0, 1), f(most, 1), f(1, 1), f(0, 1), f(0, 1)}, none, api.ErrBound},
		{of(1<<16, 0, 0, 1<<16, 0, 0), none, api.ErrBound},
	} {
		if b, err := c.m.Back(); b != c.want || err != c.err {
			t.Error(i, c.m, b, err, "want", c.want, c.err)
		}
	}
}

// P2: what others ask at the same time makes no difference.
func TestSideBySide(t *testing.T) {
	want, err := Read("move 1/2 3 turn 1 scale 2 5/7 skew -3")
	if err != nil {
		t.Fatal(err)
	}
	var wait sync.WaitGroup
	for range 8 {
		wait.Go(func() {
			for range 50 {
				m, err := Read("move 1/2 3 turn 1 scale 2 5/7 skew -3")
				b, err2 := m.Back()
				o, err3 := b.Back()
				if m != want || o != want || errors.Join(err, err2, err3) != nil {
					t.Error(m, b, o)
				}
			}
		})
	}
	wait.Wait()
}
