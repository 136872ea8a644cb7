package frac

import (
	"regexp"
	"strconv"
	"strings"
	"testing"

	"leadlight/api"
)

// P10: a fraction is read as it is written.
func TestText(t *testing.T) {
	for _, c := range []struct {
		a    api.Frac
		text string
	}{
		{f(0, 1), "0"}, {f(7, 1), "7"}, {f(-7, 1), "-7"}, {f(1, 2), "1/2"}, {f(-10, 7), "-10/7"},
		{f(most, 1), "1073741824"}, {f(-most, 1), "-1073741824"}, {f(most-1, most), "1073741823/1073741824"}, {f(-1, most), "-1/1073741824"},
	} {
		if s := Text(c.a); s != c.text {
			t.Error(s, "want", c.text)
		}
		if a, err := Read(c.text); a != c.a || err != nil {
			t.Error(c.text, a, err)
		}
	}
}

// P10: the errors of texts, ErrText ahead of Check's.
func TestReadErrors(t *testing.T) {
	for s, want := range map[string]error{
		"": api.ErrText, "-": api.ErrText, "/": api.ErrText, "1/": api.ErrText, "/2": api.ErrText, "-/2": api.ErrText, "--1": api.ErrText, "+1": api.ErrText,
		"-0": api.ErrText, "-0/2": api.ErrText, "00": api.ErrText, "01": api.ErrText, "-01": api.ErrText, "1/02": api.ErrText, "1/00": api.ErrText,
		"1/1": api.ErrText, "0/1": api.ErrText, "-5/1": api.ErrText, "1/-2": api.ErrText, "1/+2": api.ErrText, "1/-0": api.ErrText, "1/2/3": api.ErrText, "1//2": api.ErrText, "1/2/": api.ErrText,
		" 1": api.ErrText, "1 ": api.ErrText, "1 /2": api.ErrText, "1\n": api.ErrText, "1_0": api.ErrText, "0x1": api.ErrText, "1.5": api.ErrText, "1e3": api.ErrText, "a": api.ErrText, "٣": api.ErrText, "1\x00": api.ErrText, "\xff": api.ErrText,
		"10000000000": api.ErrText, "-10000000000": api.ErrText, "1/10000000000": api.ErrText, "99999999999999999999/3": api.ErrText, "9999999999/1": api.ErrText, "2147483647/01": api.ErrText,
		"2/4": api.ErrShape, "-2/4": api.ErrShape, "0/2": api.ErrShape, "1/0": api.ErrShape, "0/0": api.ErrShape, "-1/0": api.ErrShape, "9999999999/0": api.ErrShape, "9999999999/3": api.ErrShape, "4294967298/4": api.ErrShape,
		"1073741825": api.ErrBound, "-1073741825": api.ErrBound, "9999999999": api.ErrBound, "-9999999999": api.ErrBound, "1/1073741825": api.ErrBound, "1/9999999999": api.ErrBound, "4294967297/2": api.ErrBound, "1/4294967297": api.ErrBound,
	} {
		if a, err := Read(s); a != (api.Frac{}) || err != want {
			t.Errorf("%q: %v %v, want %v", s, a, err, want)
		}
	}
}

// P10: all short texts over what a fraction is written with, and a little more.
func TestReadAllShort(t *testing.T) {
	form := regexp.MustCompile(`^(?:0|-?[1-9][0-9]{0,9})(?:/(?:0|[1-9][0-9]{0,9}))?$`)
	for _, s := range texts("-/0126 +", 5) {
		top, bottom, over := strings.Cut(s, "/")
		want, err := api.Frac{}, api.ErrText
		if form.MatchString(s) && bottom != "1" {
			want.Num, _ = strconv.Atoi(top)
			want.Den = 1
			if over {
				want.Den, _ = strconv.Atoi(bottom)
			}
			if err = Check(want); err != nil {
				want = api.Frac{}
			}
		}
		got, e := Read(s)
		if got != want || e != err {
			t.Errorf("%q: %v %v, want %v %v", s, got, e, want, err)
		}
		if e == nil && Text(got) != s {
			t.Errorf("%q: written %q", s, Text(got))
		}
	}
}

func texts(letters string, long int) []string {
	all, last := []string{""}, []string{""}
	for range long {
		var next []string
		for _, s := range last {
			for _, c := range letters {
				next = append(next, s+string(c))
			}
		}
		all, last = append(all, next...), next
	}
	return all
}

// P1: whatever it is given, it ends without a panic, and what it reads is right.
func FuzzRead(f *testing.F) {
	for _, s := range []string{"1/2", "-3", "", "0/0", "9999999999/9999999999"} {
		f.Add(s)
	}
	f.Fuzz(func(t *testing.T, s string) {
		a, err := Read(s)
		if err == nil && (Check(a) != nil || Text(a) != s) {
			t.Errorf("%q: %v", s, a)
		}
		if err != nil && a != (api.Frac{}) {
			t.Errorf("%q: %v beside %v", s, a, err)
		}
	})
}
