package move

import (
	"math/big"
	"math/rand"
	"testing"

	"leadlight/api"
)

// exact works without a bound, and keeps whether all that it made would be right as a fraction.
type exact struct{ tooGreat bool }

func (e *exact) keep(r *big.Rat) *big.Rat {
	for _, part := range []*big.Int{r.Num(), r.Denom()} {
		if part.CmpAbs(big.NewInt(most)) > 0 {
			e.tooGreat = true
		}
	}
	return r
}

func (e *exact) mul(a, b *big.Rat) *big.Rat { return e.keep(new(big.Rat).Mul(a, b)) }
func (e *exact) add(a, b *big.Rat) *big.Rat { return e.keep(new(big.Rat).Add(a, b)) }
func (e *exact) sub(a, b *big.Rat) *big.Rat { return e.keep(new(big.Rat).Sub(a, b)) }
func (e *exact) div(a, b *big.Rat) *big.Rat { return e.keep(new(big.Rat).Quo(a, b)) }

type six [6]*big.Rat

func rat(a api.Frac) *big.Rat { return big.NewRat(int64(a.Num), int64(a.Den)) }

func rats(m Move) six {
	return six{rat(m.A), rat(m.B), rat(m.C), rat(m.D), rat(m.E), rat(m.F)}
}

func back(r *big.Rat) api.Frac { return f(int(r.Num().Int64()), int(r.Denom().Int64())) }

func (s six) move() Move {
	return Move{back(s[0]), back(s[1]), back(s[2]), back(s[3]), back(s[4]), back(s[5])}
}

// goes: A X + C Y + E, B X + D Y + F.
func (e *exact) goes(m six, x, y *big.Rat) (*big.Rat, *big.Rat) {
	return e.add(e.add(e.mul(m[0], x), e.mul(m[2], y)), m[4]), e.add(e.add(e.mul(m[1], x), e.mul(m[3], y)), m[5])
}

// then: where n takes what stands in each of m's columns, its own E and F in the last one alone.
func then(m, n six) (Move, error) {
	e, flat := &exact{}, n
	flat[4], flat[5] = new(big.Rat), new(big.Rat)
	var o six
	o[0], o[1] = e.goes(flat, m[0], m[1])
	o[2], o[3] = e.goes(flat, m[2], m[3])
	o[4], o[5] = e.goes(n, m[4], m[5])
	if e.tooGreat {
		return Move{}, api.ErrBound
	}
	return o.move(), nil
}

// takenBack by Cramer's rule. E and F are worked out without a bound, and then have to be right, with the products that take (E, F) back.
func takenBack(m six) (Move, error) {
	e, free := &exact{}, &exact{}
	area := e.sub(e.mul(m[0], m[3]), e.mul(m[1], m[2]))
	if area.Sign() == 0 {
		return Move{}, api.ErrZero
	}
	var o six
	o[0], o[3] = e.div(m[3], area), e.div(m[0], area)
	o[1], o[2] = e.div(new(big.Rat).Neg(m[1]), area), e.div(new(big.Rat).Neg(m[2]), area)
	o[4] = e.keep(free.div(free.sub(free.mul(m[2], m[5]), free.mul(m[3], m[4])), area))
	o[5] = e.keep(free.div(free.sub(free.mul(m[1], m[4]), free.mul(m[0], m[5])), area))
	for i, part := range o[:4] {
		e.mul(part, m[4+i/2])
	}
	if e.tooGreat {
		return Move{}, api.ErrBound
	}
	return o.move(), nil
}

// some moves and points, from a fixed beginning: small parts mostly, and those at the bound.
type some struct{ *rand.Rand }

func (s some) part() api.Frac {
	l := []api.Frac{f(0, 1), f(1, 1), f(-1, 1), f(2, 1), f(1, 2), f(-2, 3), f(5, 4), f(-7, 1), f(12, 5), f(1<<15, 1), f(1, 1<<15), f(-1<<16, 3), f(most, 1), f(-most, 1), f(1, most), f(most-1, most)}
	if s.Intn(3) > 0 {
		l = l[:9]
	}
	return l[s.Intn(len(l))]
}

func (s some) move() Move {
	return Move{s.part(), s.part(), s.part(), s.part(), s.part(), s.part()}
}

// P20, P22: At, Then and Back against numbers without a bound; what was moved, and moved back, is where it was.
func TestExact(t *testing.T) {
	s := some{rand.New(rand.NewSource(20))}
	seen := map[error]int{}
	returned := 0
	for range 60000 {
		m, n, p := s.move(), s.move(), api.Point{X: s.part(), Y: s.part()}
		e := &exact{}
		x, y := e.goes(rats(m), rat(p.X), rat(p.Y))
		want, wantErr := api.Point{X: back(x), Y: back(y)}, error(nil)
		if e.tooGreat {
			want, wantErr = api.Point{}, api.ErrBound
		}
		q, err := m.At(p)
		if q != want || err != wantErr {
			t.Fatal("at", m, p, q, err, "want", want, wantErr)
		}
		o, err2 := Then(m, n)
		if w, we := then(rats(m), rats(n)); o != w || err2 != we {
			t.Fatal("then", m, n, o, err2, "want", w, we)
		}
		b, err3 := m.Back()
		if w, we := takenBack(rats(m)); b != w || err3 != we {
			t.Fatal("back", m, b, err3, "want", w, we)
		}
		seen[err3]++
		if err == nil && err3 == nil && sameAgain(t, b, q, p) {
			returned++
		}
	}
	if len(seen) != 3 || returned < 5000 {
		t.Error("too few of a kind:", seen, returned)
	}
}

// sameAgain: b takes q to p, or is too great on the way (told by the bound alone).
func sameAgain(t *testing.T, b Move, q, p api.Point) bool {
	r, err := b.At(q)
	if err == nil && r != p || err != nil && err != api.ErrBound {
		t.Fatal("moved back", b, q, r, err, "want", p)
	}
	return err == nil
}

// P22: a move and its Back are One together, and Back's Back is the move.
func TestBackAgain(t *testing.T) {
	s := some{rand.New(rand.NewSource(22))}
	both := 0
	for range 20000 {
		m := s.move()
		b, err := m.Back()
		if err != nil {
			continue
		}
		for _, pair := range [][2]Move{{m, b}, {b, m}} {
			if o, err := Then(pair[0], pair[1]); err == nil {
				both++
				if o != One() {
					t.Fatal(m, b, o)
				}
			}
		}
		if o, err := b.Back(); err == nil && o != m || err != nil && err != api.ErrBound {
			t.Fatal(m, b, o, err)
		}
	}
	if both < 5000 {
		t.Error("too few:", both)
	}
}
