package frac

import (
	"math"
	"math/big"
	"testing"

	"leadlight/api"
)

// parts: small ones, those around the bound, and those at the ends of int.
func parts() []int {
	return []int{0, 1, 2, 3, 4, 6, 7, 12, 1 << 15, 1<<15 + 1, 1 << 16, most/2 - 1, most / 2, most - 2, most - 1, most, most + 1, most + 2, math.MaxInt - 1, math.MaxInt,
		-1, -2, -3, -6, -1 << 15, -most + 1, -most, -most - 1, -math.MaxInt, math.MinInt}
}

// pairs of any parts, right or not.
func pairs() []api.Frac {
	var l []api.Frac
	for _, n := range parts() {
		for _, d := range parts() {
			l = append(l, f(n, d))
		}
	}
	return l
}

func fitsPart(n *big.Int) bool { return n.CmpAbs(big.NewInt(most)) <= 0 }

// exactCheck says P10's words in numbers without a bound.
func exactCheck(a api.Frac) error {
	n, d := big.NewInt(int64(a.Num)), big.NewInt(int64(a.Den))
	if d.Sign() < 1 || new(big.Int).GCD(nil, nil, new(big.Int).Abs(n), d).Cmp(big.NewInt(1)) != 0 {
		return api.ErrShape
	}
	if !fitsPart(n) || !fitsPart(d) {
		return api.ErrBound
	}
	return nil
}

func exactAnswer(r *big.Rat) (api.Frac, error) {
	if !fitsPart(r.Num()) || !fitsPart(r.Denom()) {
		return api.Frac{}, api.ErrBound
	}
	return f(int(r.Num().Int64()), int(r.Denom().Int64())), nil
}

func rat(a api.Frac) *big.Rat { return big.NewRat(int64(a.Num), int64(a.Den)) }

// P10, P1: Check and Make of any parts, against numbers without a bound.
func TestPartsExact(t *testing.T) {
	for _, a := range pairs() {
		if got, want := Check(a), exactCheck(a); got != want {
			t.Error("check", a, got, "want", want)
		}
		var want api.Frac
		var err error
		switch {
		case a.Den == 0:
			err = api.ErrZero
		case !fitsPart(big.NewInt(int64(a.Num))) || !fitsPart(big.NewInt(int64(a.Den))):
			err = api.ErrBound
		default:
			want, err = exactAnswer(rat(a))
		}
		if got, e := Make(a.Num, a.Den); got != want || e != err {
			t.Error("make", a, got, e, "want", want, err)
		}
	}
}

// P11, P3, P1: the four ways and the order, of right and wrong fractions, against numbers without a bound.
func TestSumsExact(t *testing.T) {
	for _, a := range pairs() {
		for _, b := range pairs() {
			first := exactCheck(a)
			if first == nil {
				first = exactCheck(b)
			}
			if !sameAs(t, a, b, first) {
				return
			}
		}
	}
}

func sameAs(t *testing.T, a, b api.Frac, first error) bool {
	ways := []struct {
		name  string
		how   func(a, b api.Frac) (api.Frac, error)
		exact func(z, x, y *big.Rat) *big.Rat
	}{{"add", Add, (*big.Rat).Add}, {"sub", Sub, (*big.Rat).Sub}, {"mul", Mul, (*big.Rat).Mul}, {"div", Div, (*big.Rat).Quo}}
	for _, w := range ways {
		want, err := api.Frac{}, first
		if err == nil && w.name == "div" && b.Num == 0 {
			err = api.ErrZero
		} else if err == nil {
			want, err = exactAnswer(w.exact(new(big.Rat), rat(a), rat(b)))
		}
		if got, e := w.how(a, b); got != want || e != err {
			t.Error(w.name, a, b, got, e, "want", want, err)
			return false
		}
	}
	want := 0
	if first == nil {
		want = rat(a).Cmp(rat(b))
	}
	if got, e := Cmp(a, b); got != want || e != first {
		t.Error("cmp", a, b, got, e, "want", want, first)
		return false
	}
	return true
}

// P12: what is added can be taken off.
func TestTakenOff(t *testing.T) {
	var right []api.Frac
	for _, a := range pairs() {
		if Check(a) == nil {
			right = append(right, a)
		}
	}
	took := 0
	for _, a := range right {
		for _, b := range right {
			s, err := Add(a, b)
			if err != nil {
				continue
			}
			took++
			if x, err := Sub(s, b); x != a || err != nil {
				t.Fatal(a, b, s, x, err)
			}
		}
	}
	if took < len(right) {
		t.Error("too few sums:", took)
	}
}
