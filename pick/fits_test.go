package pick

import (
	"math"
	"slices"
	"strconv"
	"strings"
	"sync"
	"testing"

	"leadlight/doc"
	"leadlight/mark"
)

// list of numbers, as it is written in these tests.
func list(l []int) string {
	var words []string
	for _, n := range l {
		words = append(words, strconv.Itoa(n))
	}
	return strings.Join(words, " ")
}

type fit struct{ text, all string }

// checkFits holds All and, of each number around, Fits against what is written.
func checkFits(t *testing.T, d *doc.Doc, l []fit) {
	t.Helper()
	for _, c := range l {
		p := read(t, c.text)
		all := All(d, p)
		if list(all) != c.all {
			t.Error(c.text, all, "want", c.all)
		}
		for n := -2; n < 20; n++ {
			if p.Fits(d, n) != slices.Contains(all, n) {
				t.Error(c.text, n, p.Fits(d, n))
			}
		}
	}
}

// P51: one step: the element's name, its id, its class, its attributes.
func TestStep(t *testing.T) {
	d := open(t, `<g id="r" class="k"><box id="a" x="" class="k l"/><box class="kl" y="1"/><poly id="k" class="m k"/><boxx id="A" class="k-l"/><use id="a" of="id"/></g>`)
	checkFits(t, d, []fit{
		{"*", "0 1 2 3 4 5"}, {"box", "1 2"}, {"boxx", "4"}, {"bo", ""}, {"g", "0"}, {"id", ""}, {"class", ""},
		{"#a", "1 5"}, {"#r", "0"}, {"#k", "3"}, {"#b", ""}, {"#a#a", "1 5"}, {"#a#r", ""}, {"*#a", "1 5"}, {"box#a", "1"}, {"use#a", "5"}, {"poly#a", ""},
		{".k", "0 1 3"}, {".l", "1"}, {".kl", "2"}, {".k-l", "4"}, {".m", "3"}, {".k.l", "1"}, {".l.k", "1"}, {".k.k", "0 1 3"}, {".a", ""}, {"box.k", "1"}, {"*.k", "0 1 3"},
		{"[x]", "1"}, {"[y]", "2"}, {"[id]", "0 1 3 4 5"}, {"[class]", "0 1 2 3 4"}, {"[of]", "5"}, {"[box]", ""}, {"[k]", ""}, {"[id][class]", "0 1 3 4"}, {"[x][y]", ""},
		{"box#a.k.l[x]", "1"}, {"box#a.k.l[y]", ""}, {"box#a.m[x]", ""}, {"box#r.k[x]", ""}, {"poly#a.k[x]", ""}, {"[x].k#a", "1"},
	})
}

// P51: the class is parted by blanks, the id is not; what is empty is no part that a name could be.
func TestClass(t *testing.T) {
	d := open(t, `<a class="k"><b class=" k"/><b class="k "/><b class="l  k"/><b class="l k m"/><b class="kk"/><b class="l,k"/><b class=""/><b class="  "/><b id="k l"/><b id=" k"/><b class="K"/></a>`)
	checkFits(t, d, []fit{
		{".k", "0 1 2 3 4"}, {".l", "3 4"}, {".m", "4"}, {".l.k", "3 4"}, {".kk", "5"}, {"#k", ""}, {"#l", ""},
		{"[class]", "0 1 2 3 4 5 6 7 8 11"}, {"[id]", "9 10"}, {"b", "1 2 3 4 5 6 7 8 9 10 11"},
	})
}

// P51: a blank: somewhere below; `>`: right below.
func TestBelow(t *testing.T) {
	d := open(t, `<a><b><c/><a><c/></a></b><c><c><b/></c></c></a>`) // 0 a, 1 b, 2 c, 3 a, 4 c, 5 c, 6 c, 7 b
	checkFits(t, d, []fit{
		{"a c", "2 4 5 6"}, {"a > c", "4 5"}, {"b c", "2 4"}, {"b > c", "2"}, {"c c", "6"}, {"c > c", "6"}, {"a b", "1 7"}, {"a > b", "1"}, {"c b", "7"}, {"a a", "3"}, {"a > a", ""}, {"b b", ""},
		{"a a c", "4"}, {"a b c", "2 4"}, {"a > b > c", "2"}, {"a > b c", "2 4"}, {"a b > c", "2"}, {"a > c > c > b", "7"}, {"a > c > b", ""}, {"a > c b", "7"}, {"a c > b", "7"},
		{"* *", "1 2 3 4 5 6 7"}, {"* > *", "1 2 3 4 5 6 7"}, {"* * *", "2 3 4 6 7"}, {"* > * > *", "2 3 4 6 7"}, {"* * * *", "4 7"}, {"* > * * > *", "4 7"}, {"* * * * *", ""},
		{"c a", ""}, {"b > a > c", "4"}, {"a > b > a > c", "4"}, {"a b a c", "4"}, {"a a a", ""},
	})
}

// P51: a step that fits one above, but has the wrong ones above that, is tried with the next one above.
func TestTriedAgain(t *testing.T) {
	d := open(t, `<r><a id="x"><b><b><d><b><c/></b></d></b></b></a></r>`) // 0 r, 1 a, 2 b, 3 b, 4 d, 5 b, 6 c
	checkFits(t, d, []fit{
		{"a > b c", "6"}, {"a > b b > c", "6"}, {"a > b b", "3 5"}, {"a > b > b c", "6"}, {"r > a > b d c", "6"}, {"#x > b b c", "6"}, {"a b b b c", "6"}, {"r a b b c", "6"},
		{"a > b > c", ""}, {"r > b c", ""}, {"d > b b c", ""}, {"b > b b > c", "6"}, {"b > b > b c", ""}, {"a > d c", ""}, {"b > d > b > c", "6"}, {"r b > b > d c", "6"}, {"b b b b c", ""},
	})
}

// P51: below the deepest there are nine above, and a step may take any of them.
func TestDeepest(t *testing.T) {
	d := open(t, strings.Repeat("<c>", 10)+strings.Repeat("</c>", 10))
	checkFits(t, d, []fit{
		{"c c c c c", "4 5 6 7 8 9"}, {"c > c > c > c > c", "4 5 6 7 8 9"}, {"c c", "1 2 3 4 5 6 7 8 9"}, {"x c c c c", ""}, {"x > c c > c c", ""}, {"c c x c c", ""},
	})
}

// P51, P1: no document, and numbers that are none of it.
func TestNothing(t *testing.T) {
	d := open(t, "<a><b><c/></b></a>")
	if err := d.Remove(1); err != nil {
		t.Fatal(err)
	}
	for _, s := range []string{"*", "a", "b", "c", "* *", "* > *", "[x]", "#x", ".x"} {
		p := read(t, s)
		for _, n := range []int{math.MinInt, -2, -1, 1, 2, 3, 1 << 40, math.MaxInt} {
			if p.Fits(d, n) || p.Fits(nil, n) || p.Fits(&doc.Doc{}, n) {
				t.Error(s, n)
			}
		}
		if p.Fits(nil, 0) || p.Fits(&doc.Doc{}, 0) || len(All(nil, p)) > 0 || len(All(&doc.Doc{}, p)) > 0 {
			t.Error(s)
		}
	}
}

// P51, P2: a selector keeps nothing of a document: what changes there shows in the next answer.
func TestChanged(t *testing.T) {
	d := open(t, `<g><h/><box/></g>`)
	p := read(t, "h > .k")
	look := func(want string) {
		t.Helper()
		if got := list(All(d, p)); got != want {
			t.Error(got, "want", want)
		}
	}
	do := func(err error) {
		t.Helper()
		if err != nil {
			t.Fatal(err)
		}
	}
	look("")
	do(d.Set(2, "class", "l k"))
	look("")
	do(d.Move(2, 1, 0))
	look("2")
	n, err := d.Add(1, 0, "box")
	do(err)
	do(d.Set(n, "class", "k"))
	look("3 2") // as doc.All has them
	do(d.Unset(2, "class"))
	look("3")
	do(d.Remove(1))
	look("")
}

// P4: the document is only read, and what All answers is the caller's own.
func TestOnlyRead(t *testing.T) {
	d := open(t, `<a id="r"><b class="k l"><c/></b><c/></a>`)
	before, err := mark.Text(d.Node())
	if err != nil {
		t.Fatal(err)
	}
	p := read(t, "a c")
	for range 3 {
		l := All(d, p)
		if list(l) != "2 3" {
			t.Error(l)
		}
		for i := range l {
			l[i] = 99
		}
		_ = append(l, 98)
	}
	if after, err := mark.Text(d.Node()); err != nil || after != before || list(d.All()) != "0 1 2 3" {
		t.Error(after, err, d.All())
	}
}

// P2: many may ask at the same time.
func TestSideBySide(t *testing.T) {
	d := open(t, `<a><b><c/></b><c/></a>`)
	p := read(t, "a > b > c")
	var wait sync.WaitGroup
	for range 8 {
		wait.Go(func() {
			for range 50 {
				if list(All(d, p)) != "2" || p.Weight() != 3 {
					t.Error(p.Text())
				}
			}
		})
	}
	wait.Wait()
}
