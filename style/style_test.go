package style

import (
	"math"
	"slices"
	"sync"
	"testing"

	"leadlight/doc"
	"leadlight/mark"
	"leadlight/pick"
)

func open(t testing.TB, s string) *doc.Doc {
	t.Helper()
	n, err := mark.Read(s)
	if err != nil {
		t.Fatal(s, err)
	}
	d, err := doc.New(n)
	if err != nil {
		t.Fatal(s, err)
	}
	return d
}

func sheet(t testing.TB, s string) []Rule {
	t.Helper()
	l, err := Read(s)
	if err != nil {
		t.Fatal(s, err)
	}
	return l
}

func names() []string { return []string{"fill", "show", "rule", "level"} }

// checkOf each element, from 0 on, one name.
func checkOf(t *testing.T, d *doc.Doc, l []Rule, name string, want ...string) {
	t.Helper()
	for n, w := range want {
		if s := Of(d, l, n, name); s != w {
			t.Errorf("%s of %d: %q, want %q", name, n, s, w)
		}
	}
}

// P61: where nothing tells a value, it is the first one.
func TestFirst(t *testing.T) {
	d := open(t, "<a><b><c/></b></a>")
	for _, l := range [][]Rule{nil, {}, sheet(t, "x { fill: x }\nx { show: x }\nx { rule: x }\nx { level: x }\n")} {
		checkOf(t, d, l, "fill", "none", "none", "none")
		checkOf(t, d, l, "show", "yes", "yes", "yes")
		checkOf(t, d, l, "rule", "wind", "wind", "wind")
		checkOf(t, d, l, "level", "0", "0", "0")
	}
}

// P61: an element's own attribute is ahead of every rule, also an empty one, and one that is no value of a sheet.
func TestOwn(t *testing.T) {
	d := open(t, `<a id="p" fill="A b" show="" rule="x.y" level="-007"><b fill="" rule="" show="1"/><b/></a>`)
	for _, l := range [][]Rule{nil, sheet(t, "#p { fill: r }\n#p { show: r }\n#p { rule: r }\n#p { level: r }\n")} {
		checkOf(t, d, l, "fill", "A b", "", "A b")
		checkOf(t, d, l, "show", "", "1", "yes")
		checkOf(t, d, l, "rule", "x.y", "", "x.y")
		checkOf(t, d, l, "level", "-007", "0", "0")
	}
	all := sheet(t, "* { fill: r }\n* { show: r }\n* { rule: r }\n* { level: r }\n")
	checkOf(t, d, all, "fill", "A b", "", "r")
	checkOf(t, d, all, "show", "", "1", "r")
	checkOf(t, d, all, "rule", "x.y", "", "r")
	checkOf(t, d, all, "level", "-007", "r", "r")
}

// P61: of the rules that fit the one of the greatest weight counts, wherever it stands; of the same ones the last one.
func TestHeaviest(t *testing.T) {
	d := open(t, `<a><b id="p" class="k l"/></a>`)
	for _, c := range []struct{ text, want string }{
		{"* { fill: x }\n", "x"}, {"* { fill: x }\n* { fill: y }\n", "y"}, {"b { fill: x }\n* { fill: y }\n", "x"}, {"* { fill: y }\nb { fill: x }\n", "x"},
		{"b { fill: x }\nb { fill: y }\nb { fill: z }\n", "z"}, {".k { fill: x }\nb { fill: y }\n", "x"}, {"#p { fill: x }\n.k.l { fill: y }\na > b.k { fill: z }\n", "x"},
		{".k { fill: x }\n.l { fill: y }\n", "y"}, {".l { fill: y }\n.k { fill: x }\n", "x"}, {".k { fill: x }\n[id] { fill: y }\n", "y"}, {"a b { fill: x }\nb { fill: y }\n", "x"}, {"a > b { fill: x }\na b { fill: y }\n", "y"},
		{".k { fill: x }\n#q { fill: y }\n", "x"}, {"b { fill: x }\nb { show: y }\n", "x"}, {"#p { show: y }\n* { fill: x }\n", "x"}, {"#p { fill: x }\n* { fill: y }\n#p { fill: z }\n.k { fill: w }\n", "z"},
		{".k.k.k.k.k.k.k.k { fill: x }\n#p { fill: y }\n", "y"}, {"a .k.k.k.k.k.k.k.k { fill: x }\n[id][id].k { fill: y }\n", "x"}, {".k.k.k.k.k.k.k.k { fill: x }\na > .k.k.k.k.k.k.k.k { fill: y }\n", "y"},
	} {
		if s := Of(d, sheet(t, c.text), 1, "fill"); s != c.want {
			t.Error(c.text, s)
		}
	}
}

// P61: `fill` and `rule` come from the parent where an element has none of its own; `show` and `level` do not.
func TestInherited(t *testing.T) {
	d := open(t, `<a><b class="k"><c><d/></c><c fill="own" rule="own" show="own" level="own"><d/></c></b><c/></a>`) // 0 a, 1 b, 2 c, 3 d, 4 c, 5 d, 6 c
	l := sheet(t, ".k { fill: x }\n.k { rule: x }\n.k { show: x }\n.k { level: x }\n")
	checkOf(t, d, l, "fill", "none", "x", "x", "x", "own", "own", "none")
	checkOf(t, d, l, "rule", "wind", "x", "x", "x", "own", "own", "wind")
	checkOf(t, d, l, "show", "yes", "x", "yes", "yes", "own", "yes", "yes")
	checkOf(t, d, l, "level", "0", "x", "0", "0", "own", "0", "0")
}

// P61: a light rule that fits an element itself is ahead of what is inherited, however heavy, or an attribute.
func TestNearest(t *testing.T) {
	d := open(t, `<a id="p" fill="own"><b id="q"><c/></b></a>`)
	l := sheet(t, "#p { rule: x }\n#q { fill: y }\n* { rule: z }\nc { fill: w }\n")
	checkOf(t, d, l, "fill", "own", "y", "w")
	checkOf(t, d, l, "rule", "x", "z", "z")
}

// P61: from the root down to the deepest.
func TestDeepest(t *testing.T) {
	d := open(t, `<a fill="x" rule="y"><a><a><a><a><a><a><a><a><a/></a></a></a></a></a></a></a></a></a>`)
	if Of(d, nil, 9, "fill") != "x" || Of(d, nil, 9, "rule") != "y" || Of(d, nil, 9, "show") != "yes" || Of(d, nil, 10, "fill") != "" {
		t.Error(Of(d, nil, 9, "fill"), Of(d, nil, 9, "rule"))
	}
}

// P61, P1: no document, a number that is none of it, another name: empty.
func TestNothing(t *testing.T) {
	d := open(t, `<a what="w" class="k"><b fill="x"><c fill="y"/></b></a>`)
	if err := d.Remove(1); err != nil {
		t.Fatal(err)
	}
	l := sheet(t, "* { fill: x }\n* { show: x }\n* { rule: x }\n* { level: x }\n")
	l = append(l, Rule{Where: l[0].Where, Name: "what", Value: "x"}, Rule{Where: l[0].Where, Name: "", Value: "x"})
	for _, name := range names() {
		for _, n := range []int{math.MinInt, -2, -1, 1, 2, 3, 1 << 40, math.MaxInt} {
			if Of(d, l, n, name) != "" || Of(d, nil, n, name) != "" || Of(nil, l, n, name) != "" {
				t.Error(n, name)
			}
		}
		if Of(nil, l, 0, name) != "" || Of(nil, nil, 0, name) != "" || Of(&doc.Doc{}, l, 0, name) != "" || Of(d, l, 0, name) != "x" {
			t.Error(name)
		}
	}
	for _, name := range []string{"", "what", "class", "id", "Fill", "fill ", " fill", "fil", "none", "x"} {
		if Of(d, l, 0, name) != "" || Of(d, nil, 0, name) != "" || Of(nil, nil, -1, name) != "" {
			t.Error(name)
		}
	}
}

// P61, P1: rules that no sheet has told: selectors of no text, values that are none.
func TestOddRules(t *testing.T) {
	d := open(t, "<a/>")
	star, err := pick.Read("*")
	if err != nil {
		t.Fatal(err)
	}
	for _, c := range []struct {
		l    []Rule
		want string
	}{
		{[]Rule{{}}, "none"}, {[]Rule{{Name: "fill", Value: "x"}}, "none"}, {[]Rule{{Where: star}}, "none"}, {[]Rule{{Where: star, Value: "x"}}, "none"},
		{[]Rule{{Where: star, Name: "fill"}}, ""}, {[]Rule{{Where: star, Name: "fill", Value: "X { "}}, "X { "}, {[]Rule{{Where: star, Name: "fill", Value: "x"}, {Where: star, Name: "fill"}}, ""}, {[]Rule{{Where: star, Name: "fill", Value: "x"}, {Name: "fill", Value: "y"}}, "x"},
	} {
		if s := Of(d, c.l, 0, "fill"); s != c.want {
			t.Error(c.l, s)
		}
	}
}

// P61, P2: nothing of a document is kept: what changes there shows in the next answer.
func TestChanged(t *testing.T) {
	d := open(t, `<g><h/><box/></g>`)
	l := sheet(t, "h { fill: x }\nh > .k { show: y }\n.k { rule: z }\n")
	do := func(err error) {
		t.Helper()
		if err != nil {
			t.Fatal(err)
		}
	}
	checkOf(t, d, l, "fill", "none", "x", "none")
	do(d.Move(2, 1, 0))
	checkOf(t, d, l, "fill", "none", "x", "x")
	do(d.Set(2, "class", "k"))
	checkOf(t, d, l, "show", "yes", "yes", "y")
	checkOf(t, d, l, "rule", "wind", "wind", "z")
	do(d.Set(1, "fill", "own"))
	checkOf(t, d, l, "fill", "none", "own", "own")
	do(d.Unset(1, "fill"))
	checkOf(t, d, l, "fill", "none", "x", "x", "")
	do(d.Remove(1))
	checkOf(t, d, l, "fill", "none", "", "")
}

// P4, P3: the document and the rules are only read, also what lies behind the rules' length.
func TestOnlyRead(t *testing.T) {
	d := open(t, `<a><b class="k"/></a>`)
	before, err := mark.Text(d.Node())
	if err != nil {
		t.Fatal(err)
	}
	whole := sheet(t, "a { fill: x }\n.k { fill: y }\nb { fill: z }\n#p { fill: w }\n* { fill: v }\n.k.k { fill: u }\n")
	keep := slices.Clone(whole)
	for range 3 {
		for n := -1; n < 3; n++ {
			for _, name := range names() {
				Of(d, whole[:3], n, name)
			}
		}
		checkOf(t, d, whole[:3], "fill", "x", "y", "")
		checkOf(t, d, whole[:1], "fill", "x", "x", "")
	}
	if after, err := mark.Text(d.Node()); err != nil || after != before || !slices.Equal(whole, keep) {
		t.Error(after, err, whole)
	}
}

// P2: many may ask at the same time.
func TestSideBySide(t *testing.T) {
	d := open(t, `<a><b class="k"><c/></b></a>`)
	l := sheet(t, "a b { fill: x }\n.k { fill: y }\n")
	var wait sync.WaitGroup
	for range 8 {
		wait.Go(func() {
			for range 50 {
				if s := Of(d, l, 2, "fill"); s != "y" {
					t.Error(s)
				}
			}
		})
	}
	wait.Wait()
}
