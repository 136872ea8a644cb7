package pick

import (
	"strings"
	"testing"

	"leadlight/api"
	"leadlight/doc"
	"leadlight/mark"
)

func open(t testing.TB, s string) *doc.Doc {
	t.Helper()
	n, err := mark.Read(s)
	if err != nil {
		t.Fatal(s, err)
	}
	d, err := doc.New(n)
	if err != nil {
		t.Fatal(s, err)
	}
	return d
}

func read(t testing.TB, s string) Selector {
	t.Helper()
	p, err := Read(s)
	if err != nil {
		t.Fatal(s, err)
	}
	return p
}

const (
	longName = "a23456789-1z"     // MaxName bytes
	seven    = "#a.b[c]#a.b[c]#a" // parts of a step
)

// P50: the text is as it was read; 100 for each #, 10 for each . and [, 1 for each name of an element.
func TestRead(t *testing.T) {
	for _, c := range []struct {
		text   string
		weight int
	}{
		{"*", 0}, {"a", 1}, {"box", 1}, {longName, 1}, {"a-", 1}, {"a--1", 1},
		{"#a", 100}, {".a", 10}, {"[a]", 10}, {"*#a", 100}, {"*.a", 10}, {"*[a]", 10}, {"a#a", 101}, {"a.a", 11}, {"a[a]", 11},
		{"#id.class[name]", 120}, {"[name].class#id", 120}, {"#a#a", 200}, {".a.a", 20}, {"[a][a]", 20}, {"a[b].c", 21},
		{"#" + longName, 100}, {"." + longName, 10}, {"[" + longName + "]", 10},
		{"group > box.k", 12}, {"group box.k", 12}, {"a b", 2}, {"a > b", 2}, {"* *", 0}, {"* > *", 0}, {"a b > c d", 4}, {"a > b c > d", 4},
		{"#a > .b [c] > d", 121}, {".a .a", 20}, {"a *", 1}, {"* > a", 1},
	} {
		p, err := Read(c.text)
		if err != nil || p.Text() != c.text || p.Weight() != c.weight {
			t.Error(c.text, err, p.Text(), p.Weight())
		}
	}
}

// P50: the most that a selector may have: MaxSteps steps, of each eight parts beside the element's.
func TestReadMost(t *testing.T) {
	full := longName + strings.Repeat("["+longName+"]", 8)
	for text, weight := range map[string]int{
		"a b c d e": 5, "a > b > c > d > e": 5, "a > b c > d e": 5, "* * * * *": 0,
		seven + ".b": 350, "a" + seven + "[c]": 351, "*" + seven + "#a": 440,
		strings.Repeat(".k", 8): 80, strings.Repeat("#k", 8): 800, strings.Repeat("[k]", 8): 80,
		full + strings.Repeat(" > "+full, 4): 5 * 81,
	} {
		p, err := Read(text)
		if err != nil || p.Text() != text || p.Weight() != weight {
			t.Error(text, err, p.Text(), p.Weight())
		}
	}
}

// P50, P3: what is no selector is ErrText, bare, and nothing else is answered.
func TestReadWrong(t *testing.T) {
	var wrong []string
	wrong = append(wrong, "", " ", "  ", ">", " >", "> ", " > ", "a ", " a", "a  b", "a   b", "a >", "a > ", "> a", " > a", "a > > b", "a > > > b", "a  > b", "a >  b", "a >b", "a> b", "a>b", "a b ", "a + b", "a, b", "a\tb", "a\nb", "a\n")
	wrong = append(wrong, "**", "*a", "a*", "#*", ".*", "[*]", "* *a", "A", "aB", "1", "1a", "-a", "a_b", "é", "a\x00", "\xff", "a:b", "a/b", longName+"x")
	wrong = append(wrong, "#", ".", "[", "]", "[]", "a#", "a.", "a[", "a]", "a[]", "a[b", "a[b]]", "a[[b]", "a[[b]]", "a[b]c", "a[b]*", "[b]c", "[b", "b]", "[b#c]", "[b.c]", "[#b]", "a[b=c]", "a[b ]", "a[ b]", "a[b c]", "##a", "..a", "#.a", "a#b#", "a.b.", "#a]", ".a]")
	wrong = append(wrong, "#A", "#1", ".A", ".1", ".-a", "[A]", "[1]", "#"+longName+"x", "."+longName+"x", "["+longName+"x]")
	wrong = append(wrong, "a b c d e f", "a > b > c > d > e > f", "* * * * * *", seven+".b.b", "a"+seven+"[c][c]", strings.Repeat(".k", 9), strings.Repeat("#k", 9), strings.Repeat("[k]", 9), "a a"+strings.Repeat(".k", 9)+" a")
	wrong = append(wrong, "A b c", "a B c", "a b C", "a#b c#", "a# c", "a b# c", strings.Repeat("a", 20000), strings.Repeat("a ", 20000)+"a", strings.Repeat(".a", 20000), strings.Repeat(" ", 20000), strings.Repeat("a > ", 20000)+"a")
	for _, s := range wrong {
		if p, err := Read(s); err != api.ErrText || p != (Selector{}) {
			t.Error(s, err, p.Text())
		}
	}
}

// P50, P51: the zero Selector.
func TestZero(t *testing.T) {
	var zero Selector
	d := open(t, `<a id=""><b/></a>`)
	if zero.Text() != "" || zero.Weight() != 0 || zero.Fits(nil, 0) || len(All(d, zero)) > 0 || len(All(nil, zero)) > 0 {
		t.Error(zero.Text(), zero.Weight(), All(d, zero))
	}
	for n := -1; n < 3; n++ {
		if zero.Fits(d, n) {
			t.Error(n)
		}
	}
}
