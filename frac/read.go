package frac

import (
	"strings"

	"leadlight/api"
)

// maxDigits of a part in a text: int64 holds every number of so many.
const maxDigits = 10

// Read a fraction.
func Read(s string) (api.Frac, error) {
	top, bottom, over := strings.Cut(s, "/")
	num, ok := readNum(top)
	if !ok {
		return api.Frac{}, api.ErrText
	}
	den := int64(1)
	if over {
		den, ok = readDigits(bottom)
		if !ok || den == 1 {
			return api.Frac{}, api.ErrText
		}
	}
	if err := check(num, den); err != nil {
		return api.Frac{}, err
	}
	return api.Frac{Num: int(num), Den: int(den)}, nil
}

func readNum(s string) (int64, bool) {
	digits, below := strings.CutPrefix(s, "-")
	n, ok := readDigits(digits)
	if !ok || below && n == 0 {
		return 0, false
	}
	if below {
		n = -n
	}
	return n, true
}

// readDigits is stricter than strconv, which also takes a sign and needless zeros.
func readDigits(s string) (int64, bool) {
	if s == "" || len(s) > maxDigits || s[0] == '0' && s != "0" {
		return 0, false
	}
	n := int64(0)
	for i := 0; i < len(s); i++ {
		if s[i] < '0' || s[i] > '9' {
			return 0, false
		}
		n = n*10 + int64(s[i]-'0')
	}
	return n, true
}
