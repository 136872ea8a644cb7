package frac

import "leadlight/api"

// checkBoth tells a's error ahead of b's.
func checkBoth(a, b api.Frac) error {
	if err := Check(a); err != nil {
		return err
	}
	return Check(b)
}

// check asks for the shape ahead of the bound, so parts of any size come in to divisor.
func check(num, den int64) error {
	if den < 1 || divisor(size(num), size(den)) != 1 {
		return api.ErrShape
	}
	if tooGreat(num) || tooGreat(den) {
		return api.ErrBound
	}
	return nil
}

// lowest puts num over den in lowest terms. Only what is not right then is too great: a sum may be great ahead of it, and small behind it. (den is not 0, and neither part is the least int64, which has no opposite.)
func lowest(num, den int64) (api.Frac, error) {
	if den < 0 {
		num, den = -num, -den
	}
	d := int64(divisor(size(num), size(den)))
	num, den = num/d, den/d
	if tooGreat(num) || tooGreat(den) {
		return api.Frac{}, api.ErrBound
	}
	return api.Frac{Num: int(num), Den: int(den)}, nil
}

// divisor is the greatest common one. (Of 0 and b it is b: so 0 over 1 alone is in lowest terms.)
func divisor(a, b uint64) uint64 {
	for b != 0 {
		a, b = b, a%b
	}
	return a
}

// size is unsigned, because the least int64 has no opposite among its own kind.
func size(n int64) uint64 {
	if n < 0 {
		return -uint64(n)
	}
	return uint64(n)
}

func tooGreat(part int64) bool { return size(part) > api.MaxPart }
