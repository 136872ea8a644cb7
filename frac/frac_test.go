package frac

import (
	"math"
	"sync"
	"testing"

	"leadlight/api"
)

const most = api.MaxPart

func f(num, den int) api.Frac { return api.Frac{Num: num, Den: den} }

// P10: which fractions are right, and the shape ahead of the bound.
func TestCheck(t *testing.T) {
	for _, c := range []struct {
		a   api.Frac
		err error
	}{
		{f(0, 1), nil}, {f(1, 2), nil}, {f(-1, 2), nil}, {f(7, 1), nil},
		{f(most, 1), nil}, {f(-most, 1), nil}, {f(1, most), nil}, {f(most-1, most), nil}, {f(most, most-1), nil},
		{f(0, 0), api.ErrShape}, {f(1, 0), api.ErrShape}, {f(1, -1), api.ErrShape}, {f(1, math.MinInt), api.ErrShape},
		{f(0, 2), api.ErrShape}, {f(2, 4), api.ErrShape}, {f(-9, 6), api.ErrShape}, {f(most, most), api.ErrShape},
		{f(most+1, 1), api.ErrBound}, {f(-most-1, 1), api.ErrBound}, {f(1, most+1), api.ErrBound},
		{f(math.MinInt, 1), api.ErrBound}, {f(math.MaxInt, 1), api.ErrBound}, {f(math.MinInt, math.MaxInt), api.ErrBound},
		{f(math.MinInt, 2), api.ErrShape}, {f(most+2, 2), api.ErrShape}, {f(0, math.MaxInt), api.ErrShape}, {f(math.MaxInt, math.MaxInt), api.ErrShape},
	} {
		if err := Check(c.a); err != c.err {
			t.Error(c.a, err, "want", c.err)
		}
	}
}

// P10: lowest terms, the sign on top, and 0's den ahead of the bound.
func TestMake(t *testing.T) {
	for _, c := range []struct {
		num, den int
		want     api.Frac
		err      error
	}{
		{1, 2, f(1, 2), nil}, {2, 4, f(1, 2), nil}, {6, -4, f(-3, 2), nil}, {-6, 4, f(-3, 2), nil}, {-6, -4, f(3, 2), nil},
		{0, 5, f(0, 1), nil}, {0, -5, f(0, 1), nil}, {8, 2, f(4, 1), nil},
		{most, most, f(1, 1), nil}, {-most, most, f(-1, 1), nil}, {most, -most, f(-1, 1), nil}, {-most, -1, f(most, 1), nil},
		{1, most, f(1, most), nil}, {1, -most, f(-1, most), nil}, {most - 1, most, f(most-1, most), nil},
		{0, 0, f(0, 0), api.ErrZero}, {most + 1, 0, f(0, 0), api.ErrZero}, {math.MinInt, 0, f(0, 0), api.ErrZero},
		{most + 1, 1, f(0, 0), api.ErrBound}, {-most - 1, 1, f(0, 0), api.ErrBound}, {1, most + 1, f(0, 0), api.ErrBound}, {1, -most - 1, f(0, 0), api.ErrBound},
		{most + 2, most + 2, f(0, 0), api.ErrBound}, {0, math.MinInt, f(0, 0), api.ErrBound}, {math.MinInt, math.MinInt, f(0, 0), api.ErrBound}, {math.MinInt, -1, f(0, 0), api.ErrBound},
	} {
		if a, err := Make(c.num, c.den); a != c.want || err != c.err {
			t.Error(c.num, c.den, a, err, "want", c.want, c.err)
		}
	}
}

// P11: ordinary answers, and each error in its order.
func TestSums(t *testing.T) {
	for i, c := range []struct {
		how        func(a, b api.Frac) (api.Frac, error)
		a, b, want api.Frac
		err        error
	}{
		{Add, f(1, 2), f(1, 3), f(5, 6), nil}, {Add, f(1, 6), f(1, 3), f(1, 2), nil}, {Add, f(-1, 2), f(1, 2), f(0, 1), nil}, {Add, f(0, 1), f(-3, 7), f(-3, 7), nil},
		{Sub, f(1, 2), f(1, 3), f(1, 6), nil}, {Sub, f(1, 3), f(1, 2), f(-1, 6), nil}, {Sub, f(3, 4), f(3, 4), f(0, 1), nil}, {Sub, f(0, 1), f(-most, 1), f(most, 1), nil},
		{Mul, f(2, 3), f(3, 4), f(1, 2), nil}, {Mul, f(-2, 3), f(-3, 2), f(1, 1), nil}, {Mul, f(0, 1), f(-5, 7), f(0, 1), nil}, {Mul, f(most, 1), f(1, most), f(1, 1), nil},
		{Div, f(1, 2), f(1, 3), f(3, 2), nil}, {Div, f(1, 2), f(-1, 4), f(-2, 1), nil}, {Div, f(-1, 2), f(-1, 4), f(2, 1), nil}, {Div, f(0, 1), f(-3, 5), f(0, 1), nil}, {Div, f(-most, 1), f(-most, 1), f(1, 1), nil},

		{Add, f(most, 1), f(1, 1), f(0, 0), api.ErrBound}, {Add, f(most-1, 1), f(1, 1), f(most, 1), nil}, {Add, f(1, most), f(1, most-1), f(0, 0), api.ErrBound},
		{Sub, f(-most, 1), f(1, 1), f(0, 0), api.ErrBound}, {Sub, f(1-most, 1), f(1, 1), f(-most, 1), nil},
		{Mul, f(1<<15, 1), f(1<<15, 1), f(most, 1), nil}, {Mul, f(1<<15, 1), f(1<<16, 1), f(0, 0), api.ErrBound}, {Mul, f(1, 1<<15), f(-1, 1<<15), f(-1, most), nil}, {Mul, f(1, 1<<15), f(1, 1<<16), f(0, 0), api.ErrBound},
		{Div, f(1, most), f(most, 1), f(0, 0), api.ErrBound}, {Div, f(most, 1), f(1, 2), f(0, 0), api.ErrBound}, {Div, f(most, 3), f(most, 5), f(5, 3), nil},

		{Div, f(1, 2), f(0, 1), f(0, 0), api.ErrZero}, {Div, f(0, 1), f(0, 1), f(0, 0), api.ErrZero}, {Div, f(2, 4), f(0, 1), f(0, 0), api.ErrShape}, {Div, f(1, 2), f(0, 2), f(0, 0), api.ErrShape},
		{Add, f(2, 4), f(most+1, 1), f(0, 0), api.ErrShape}, {Add, f(most+1, 1), f(2, 4), f(0, 0), api.ErrBound}, {Sub, f(1, 2), f(1, 0), f(0, 0), api.ErrShape}, {Sub, f(1, 2), f(math.MinInt, 1), f(0, 0), api.ErrBound}, {Mul, f(0, 1), f(0, 0), f(0, 0), api.ErrShape},
	} {
		if a, err := c.how(c.a, c.b); a != c.want || err != c.err {
			t.Error(i, c.a, c.b, a, err, "want", c.want, c.err)
		}
	}
}

// P11: the order of fractions.
func TestCmp(t *testing.T) {
	for _, c := range []struct {
		a, b api.Frac
		want int
		err  error
	}{
		{f(1, 2), f(1, 3), 1, nil}, {f(1, 3), f(1, 2), -1, nil}, {f(-1, 2), f(-1, 3), -1, nil}, {f(-1, 2), f(1, 3), -1, nil}, {f(0, 1), f(0, 1), 0, nil}, {f(5, 7), f(5, 7), 0, nil},
		{f(most, 1), f(-most, 1), 1, nil}, {f(most-1, most), f(most-2, most-1), 1, nil}, {f(most, most-1), f(1, 1), 1, nil}, {f(0, 1), f(1, most), -1, nil},
		{f(2, 4), f(most+1, 1), 0, api.ErrShape}, {f(most+1, 1), f(2, 4), 0, api.ErrBound}, {f(1, 1), f(0, 0), 0, api.ErrShape}, {f(1, 1), f(0, most+1), 0, api.ErrShape}, {f(1, 1), f(1, most+1), 0, api.ErrBound},
	} {
		if n, err := Cmp(c.a, c.b); n != c.want || err != c.err {
			t.Error(c.a, c.b, n, err, "want", c.want, c.err)
		}
	}
}

// P2: what others ask at the same time makes no difference.
func TestSideBySide(t *testing.T) {
	want := tellAll()
	var wait sync.WaitGroup
	for range 8 {
		wait.Go(func() {
			if got := tellAll(); got != want {
				t.Error(got, "want", want)
			}
		})
	}
	wait.Wait()
}

func tellAll() string {
	s := ""
	for _, x := range []string{"1/2", "-3", "5/7", "0", "2/4"} {
		a, _ := Read(x)
		b, _ := Add(a, f(1, 3))
		c, _ := Div(b, f(-2, 5))
		s += Text(a) + " " + Text(b) + " " + Text(c) + " "
	}
	return s
}
