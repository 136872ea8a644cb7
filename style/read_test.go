package style

import (
	"errors"
	"regexp"
	"slices"
	"strings"
	"testing"

	"leadlight/api"
	"leadlight/pick"
)

const longValue = "a1-z2--9b3c4" // MaxName bytes

// P60: a sheet's rules, in the order of its lines, each as it is written.
func TestRead(t *testing.T) {
	const s = "box { fill: red }\n* { show: no }\ngroup > box.k#a[x] b { rule: even }\n#a { level: -12 }\nbox { fill: red }\n"
	l, err := Read(s)
	if err != nil || len(l) != 5 {
		t.Fatal(l, err)
	}
	for i, want := range []struct {
		where, name, value string
		weight             int
	}{{"box", "fill", "red", 1}, {"*", "show", "no", 0}, {"group > box.k#a[x] b", "rule", "even", 123}, {"#a", "level", "-12", 100}, {"box", "fill", "red", 1}} {
		if r := l[i]; r.Where.Text() != want.where || r.Where.Weight() != want.weight || r.Name != want.name || r.Value != want.value {
			t.Error(i, r, want)
		}
	}
	if l, err := Read(""); len(l) > 0 || err != nil {
		t.Error(l, err)
	}
}

// P60: the names, and values of letters, digits and `-`, in any order, also such as none of the names takes.
func TestReadValues(t *testing.T) {
	for _, name := range []string{"fill", "show", "rule", "level"} {
		for _, value := range []string{"a", "z", "0", "9", "-", "--", "0a", "-a", "a-", "12", "yes", "wind", "none", longValue, strings.Repeat("-", 12), strings.Repeat("9", 12)} {
			l, err := Read("a { " + name + ": " + value + " }\n")
			if err != nil || len(l) != 1 || l[0].Name != name || l[0].Value != value || l[0].Where.Text() != "a" {
				t.Error(name, value, l, err)
			}
		}
	}
}

// wrongLines: each is no line of a sheet.
func wrongLines() []string {
	l := []string{"", " ", "{", "}", "{ }", " { }", "a", "a { }", "a {  }", "a { fill }", "a { fill: }", "a { fill:  }", "a { : b }", "a {  : b }", "a { fill b }", "a { fill= b }", "a : fill { b }"}
	l = append(l, "a{ fill: b }", "a {fill: b }", "a { fill:b }", "a { fill: b}", "a { fill : b }", "a  { fill: b }", "a {  fill: b }", "a { fill:  b }", "a { fill: b  }", " a { fill: b }", "a { fill: b } ", "\ta { fill: b }", "a\t{ fill: b }", "a { fill:\tb }", "a { fill: b }\r")
	l = append(l, "a { fill: b", "a { fill: b ", "a fill: b }", "{ fill: b }", " { fill: b }", "  { fill: b }", "a { fill: b };", "a { fill: b; }", "a { fill: b; show: no }", "a { fill: b } { fill: b }", "a { { fill: b } }", "a { a { fill: b }", "a { fill: fill: b }", "a { fill: b: c }", "a { fill: b } }", "a { fill: b c }", "a: { fill: b }")
	for _, name := range []string{"what", "Fill", "FILL", "fil", "fills", "fill ", "class", "id", "a", "none", "show-"} {
		l = append(l, "a { "+name+": b }")
	}
	for _, value := range []string{"B", "bC", "b_", "b.", "#b", "+1", "1/2", "b\x00", "\xff", "é", "b\u00e4", "{", "}", ":", `"b"`, longValue + "x", strings.Repeat("b", 13), strings.Repeat("b", 900)} {
		l = append(l, "a { fill: "+value+" }")
	}
	for _, where := range []string{"A", "1", "**", "a >", "> a", "a > > b", "a>b", "a  b", "a, b", "a[b", "#", "a b c d e f", strings.Repeat(".k", 9), "abcdefghijklm", "a {", "é"} {
		l = append(l, where+" { fill: b }")
	}
	return l
}

// checkFault tells whether nothing but a place and an error was answered.
func checkFault(t *testing.T, s string, at int) {
	t.Helper()
	l, err := Read(s)
	var f *api.Fault
	if len(l) > 0 || !errors.As(err, &f) || f.At != at || f.Err != api.ErrText {
		t.Errorf("%.60q: %v %v, want place %d", s, l, err, at)
	}
}

// P60, P3: a line that is none is ErrText at its place: alone, behind right ones, ahead of right ones; the first of several.
func TestReadWrong(t *testing.T) {
	const right = "a { fill: b }\n"
	for _, line := range wrongLines() {
		checkFault(t, line+"\n", 0)
		checkFault(t, right+line+"\n", 1)
		checkFault(t, line+"\n"+right, 0)
		checkFault(t, right+right+line+"\n"+right+line+"\n", 2)
	}
}

// P60: what is behind the last line break is a line that is none, if it is not empty, also where a break would make it one.
func TestReadNotEnded(t *testing.T) {
	const right = "a { fill: b }\n"
	checkFault(t, "a { fill: b }", 0)
	checkFault(t, right+"a { fill: b }", 1)
	checkFault(t, right+right+" ", 2)
	checkFault(t, right+"x\n"+"a { fill: b }", 1)
	checkFault(t, right+right+"\n", 2)
	checkFault(t, "\n", 0)
	checkFault(t, "\n"+right, 0)
	checkFault(t, strings.Repeat(right, 40)+"a", 40)
}

// P60, P3: MaxRules rules, and one more: bare; but a wrong line is told ahead of that, wherever it stands.
func TestReadFull(t *testing.T) {
	const right = "a { fill: b }\n"
	if l, err := Read(strings.Repeat(right, 40)); len(l) != 40 || err != nil {
		t.Error(l, err)
	}
	for _, n := range []int{41, 42, 700} {
		if l, err := Read(strings.Repeat(right, n)); len(l) > 0 || err != api.ErrFull {
			t.Error(n, l, err)
		}
		checkFault(t, strings.Repeat(right, n)+"\n", n)
		checkFault(t, strings.Repeat(right, n)+"a { fill: b }", n)
		checkFault(t, "a { fill: B }\n"+strings.Repeat(right, n), 0)
	}
}

// P60, P3: MaxText bytes, and one more: bare, whatever they are.
func TestReadBound(t *testing.T) {
	step := "abcdefghijkl" + strings.Repeat("[abcdefghijkl]", 8)
	long := step + strings.Repeat(" > "+step, 3) + " { fill: b }\n"
	const short = "a { fill: b }\n"
	s := strings.Repeat(long, api.MaxText/len(long))
	s += strings.Repeat(short, (api.MaxText-len(s))/len(short)-1)
	s += short[:1] + strings.Repeat("a", api.MaxText-len(s)-len(short)-len("#b")) + "#b" + short[1:]
	if len(s) != api.MaxText {
		t.Fatal(len(s))
	}
	l, err := Read(s)
	if len(l) > api.MaxRules || err != nil || l[0].Where.Text()+" { fill: b }\n" != long {
		t.Error(len(l), err)
	}
	for _, more := range []string{s + "\n", "a" + s, s + s, strings.Repeat("x", 10001), strings.Repeat("\n", 10001), strings.Repeat("a { fill: b }\n", 10000)} {
		if l, err := Read(more); len(l) > 0 || err != api.ErrBound {
			t.Error(len(more), l, err)
		}
	}
	checkFault(t, strings.Repeat("x", 10000), 0)
	checkFault(t, strings.Repeat("\n", 10000), 0)
}

// P60: each change of one byte of a line, and each byte more or less, against the document's words as a pattern.
func TestReadNear(t *testing.T) {
	pattern := regexp.MustCompile(`\A([^{}]*) \{ (fill|show|rule|level): ([a-z0-9-]{1,12}) \}\n\z`)
	check := func(s string) {
		m := pattern.FindStringSubmatch(s)
		if m != nil {
			if _, err := pick.Read(m[1]); err != nil {
				m = nil
			}
		}
		l, err := Read(s)
		if m == nil && s != "" && err == nil || m != nil && (err != nil || len(l) != 1 || l[0].Where.Text() != m[1] || l[0].Name != m[2] || l[0].Value != m[3]) {
			t.Errorf("%q: %v %v, want %v", s, l, err, m)
		}
	}
	for _, line := range []string{"a > #b.c { fill: re-1 }\n", "[x] { level: 0 }\n", "* k { show: no }\n"} {
		check(line)
		for i := range len(line) + 1 {
			for c := range 256 {
				check(line[:i] + string([]byte{byte(c)}) + line[i:])
				if i < len(line) {
					check(line[:i] + string([]byte{byte(c)}) + line[i+1:])
				}
			}
			if i < len(line) {
				check(line[:i] + line[i+1:])
			}
		}
	}
}

// P2, P4: each answer is new memory.
func TestReadNew(t *testing.T) {
	const s = "a { fill: b }\n.k { show: no }\n"
	one, err := Read(s)
	if err != nil {
		t.Fatal(err)
	}
	two, err := Read(s)
	if err != nil || !slices.Equal(one, two) {
		t.Fatal(two, err)
	}
	one[0], one[1] = Rule{}, Rule{}
	_ = append(one, Rule{Name: "x"})
	if three, err := Read(s); err != nil || !slices.Equal(two, three) {
		t.Error(two, three, err)
	}
}
