// Package frac: fractions: see ../shared/doc/01-frac.md.
package frac

import (
	"cmp"
	"strconv"

	"leadlight/api"
)

// Check a fraction.
func Check(a api.Frac) error { return check(int64(a.Num), int64(a.Den)) }

// Make a fraction.
func Make(num, den int) (api.Frac, error) {
	if den == 0 {
		return api.Frac{}, api.ErrZero
	}
	if tooGreat(int64(num)) || tooGreat(int64(den)) {
		return api.Frac{}, api.ErrBound
	}
	return lowest(int64(num), int64(den))
}

// Text of a fraction.
func Text(a api.Frac) string {
	if a.Den == 1 {
		return strconv.Itoa(a.Num)
	}
	return strconv.Itoa(a.Num) + "/" + strconv.Itoa(a.Den)
}

// Add two of them.
func Add(a, b api.Frac) (api.Frac, error) {
	if err := checkBoth(a, b); err != nil {
		return api.Frac{}, err
	}
	return sum(a, b)
}

// Sub one from another.
func Sub(a, b api.Frac) (api.Frac, error) {
	if err := checkBoth(a, b); err != nil {
		return api.Frac{}, err
	}
	return sum(a, api.Frac{Num: -b.Num, Den: b.Den})
}

// Mul two of them.
func Mul(a, b api.Frac) (api.Frac, error) {
	if err := checkBoth(a, b); err != nil {
		return api.Frac{}, err
	}
	return lowest(times(a.Num, b.Num), times(a.Den, b.Den))
}

// Div one by another.
func Div(a, b api.Frac) (api.Frac, error) {
	if err := checkBoth(a, b); err != nil {
		return api.Frac{}, err
	}
	if b.Num == 0 {
		return api.Frac{}, api.ErrZero
	}
	return lowest(times(a.Num, b.Den), times(a.Den, b.Num))
}

// Cmp two of them.
func Cmp(a, b api.Frac) (int, error) {
	if err := checkBoth(a, b); err != nil {
		return 0, err
	}
	return cmp.Compare(times(a.Num, b.Den), times(b.Num, a.Den)), nil
}

// sum of two that are right: both products are at most 2 to the 60th in size, so int64 holds their sum.
func sum(a, b api.Frac) (api.Frac, error) {
	return lowest(times(a.Num, b.Den)+times(b.Num, a.Den), times(a.Den, b.Den))
}

// times works in int64, because an int may be too short for a product of two parts.
func times(a, b int) int64 { return int64(a) * int64(b) }
