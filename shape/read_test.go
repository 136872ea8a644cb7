package shape

import (
	"regexp"
	"strings"
	"testing"

	"leadlight/api"
	"leadlight/frac"
	"leadlight/plain"
)

// P70: points as they are written, in their order.
func TestRead(t *testing.T) {
	for text, want := range map[string]Shape{
		"": {}, "0,0": of(at(0, 0)), "1,2 -3,4": of(at(1, 2), at(-3, 4)), "1/2,-2/3": of(api.Point{X: f(1, 2), Y: f(-2, 3)}), "5,5 5,5 5,5": of(at(5, 5), at(5, 5), at(5, 5)),
		"1000,-1000": of(at(1000, -1000)), "19999/20,1/20": of(api.Point{X: f(19999, 20), Y: f(1, 20)}),
	} {
		if s, err := Read(text); !same(s, want) || err != nil {
			t.Error(text, s, err)
		}
	}
	if s, err := Read(strings.Repeat("1,2 ", 29) + "3,4"); len(s.Points) != 30 || s.Points[29] != at(3, 4) || s.Points[28] != at(1, 2) || err != nil {
		t.Error(s, err)
	}
}

// P70: what is no such text, also by a fraction that frac.Read does not take.
func TestReadText(t *testing.T) {
	for _, text := range []string{
		" ", "  ", ",", "1", "1,", ",1", "1,2 ", " 1,2", "1,2  3,4", "1,2,3", "1,2,", ",1,2", "1,,2", "1 ,2", "1, 2", "1 2", "1,2;3,4", "1,2\n", "1,2\t3,4", "1,2\n3,4", "x,1", "1,x", "1.5,1", "+1,1", "1,2 3", "1,2 3,", "1,2 x",
		"2/4,1", "1,2/4", "0/2,1", "1/1,1", "1/0,1", "-0,1", "01,1", "1,00", "1/-2,1", "1073741825,1", "1,-1073741825", "1,2147483648", "1/1073741825,1", "10000000000,1", "1,2 2/4,1", "1,2\x00", "١,1", "1，2",
	} {
		if s, err := Read(text); s.Points != nil || !told(err, api.ErrText, -1) {
			t.Errorf("%q: %v %v", text, s, err)
		}
	}
}

// P70, P3: Check's errors come behind the whole text's.
func TestReadCheck(t *testing.T) {
	for _, c := range []struct {
		text string
		want error
		at   int
	}{
		{strings.Repeat("0,0 ", 30) + "0,0", api.ErrBound, -1}, {strings.Repeat("1001,0 ", 30) + "0,0", api.ErrBound, -1}, {strings.Repeat("0,0 ", 30) + "0,x", api.ErrText, -1}, {strings.Repeat("0,0 ", 30), api.ErrText, -1}, {strings.Repeat("0,0 ", 9999) + "2/4,0", api.ErrText, -1},
		{"1001,0", api.ErrBound, 0}, {"0,-1001", api.ErrBound, 0}, {"0,0 20001/20,0 1001,0", api.ErrBound, 1}, {"0,0 0,0 0,1/21", api.ErrBound, 2}, {"1073741824,0", api.ErrBound, 0}, {"0,0 0,1/1073741824", api.ErrBound, 1},
		{"1001,0 x,0", api.ErrText, -1}, {"1001,0 2/4,0", api.ErrText, -1}, {"1/21,0 1073741825,0", api.ErrText, -1}, {"1001,0 ", api.ErrText, -1},
	} {
		if s, err := Read(c.text); s.Points != nil || !told(err, c.want, c.at) {
			t.Errorf("%.40q: %v %v, want %v %d", c.text, s, err, c.want, c.at)
		}
	}
}

// P1: a long text ends.
func TestReadLong(t *testing.T) {
	for _, part := range []string{" ", ",", "1,1 ", "1", "1,1,"} {
		if s, err := Read(strings.Repeat(part, 200000)); s.Points != nil || !told(err, api.ErrText, -1) {
			t.Error(part, err)
		}
	}
}

// all texts of at most so many bytes out of these.
func all(bytes string, longest int, each func(s string)) {
	var add func(s string)
	add = func(s string) {
		each(s)
		for i := 0; i < len(bytes) && len(s) < longest; i++ {
			add(s + bytes[i:i+1])
		}
	}
	add("")
}

func textOf(s Shape) string {
	var words []string
	for _, p := range s.Points {
		words = append(words, frac.Text(p.X)+","+frac.Text(p.Y))
	}
	return strings.Join(words, " ")
}

// P70: all short texts over what points are written with, against a pattern; what is read is written as it was.
func TestReadAllShort(t *testing.T) {
	form := regexp.MustCompile(`^(?:P,P(?: P,P)*)?$`)
	part := regexp.MustCompile(`[^ ,]+`)
	reads := 0
	all("-/012, ", 7, func(text string) {
		want := form.MatchString(part.ReplaceAllStringFunc(text, func(s string) string {
			if _, err := frac.Read(s); err != nil {
				return "x"
			}
			return "P"
		}))
		s, err := Read(text)
		switch {
		case !want && (s.Points != nil || err != api.ErrText):
			t.Fatalf("%q: %v %v", text, s, err)
		case want && s.Check() == nil && err == nil && textOf(s) == text:
			reads++
		case want && (err == nil || !told(err, api.ErrBound, 0) && !told(err, api.ErrBound, 1)):
			t.Fatalf("%q: %v %v", text, s, err)
		}
	})
	if reads < 500 {
		t.Error("too few were read:", reads)
	}
}

// P1, P3: whatever it is given, it answers a shape that is well, or an error alone.
func FuzzRead(f *testing.F) {
	for _, s := range []string{"", "0,0 4,0 4,3", "1/2,-3", "1001,0", "2/4,1", "1,2 "} {
		f.Add(s)
	}
	f.Fuzz(func(t *testing.T, text string) {
		s, err := Read(text)
		if err == nil && (s.Check() != nil || textOf(s) != text) {
			t.Errorf("%q: %v", text, s)
		}
		if code, _ := plain.Code(err); err != nil && (s.Points != nil || code != 1 && code != 2) {
			t.Errorf("%q: %v %v", text, s, err)
		}
	})
}
