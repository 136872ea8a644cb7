package style

import (
	"cmp"
	"math/rand/v2"
	"slices"
	"strconv"
	"strings"
	"testing"

	"leadlight/api"
	"leadlight/doc"
	"leadlight/pick"
)

func oneOf(r *rand.Rand, l ...string) string { return l[r.IntN(len(l))] }

func someWhere(r *rand.Rand) string {
	step := func() string {
		return oneOf(r, "*", "a", "b", "c") + oneOf(r, "", "", ".k", ".l", ".k.l", "#p", "[fill]", "[x]")
	}
	s := step()
	for r.IntN(3) == 0 && strings.Count(s, " ") < 4 {
		s += oneOf(r, " ", " > ") + step()
	}
	return s
}

func someSheet(t *testing.T, r *rand.Rand) []Rule {
	var s strings.Builder
	for i := range r.IntN(api.MaxRules + 1) {
		s.WriteString(someWhere(r) + " { " + oneOf(r, names()...) + ": v" + strconv.Itoa(i) + " }\n")
	}
	return sheet(t, s.String())
}

func someDoc(t *testing.T, r *rand.Rand) *doc.Doc {
	d := open(t, "<a/>")
	for range 20 {
		all := d.All()
		n, err := d.Add(all[r.IntN(len(all))], 0, oneOf(r, "a", "b", "c"))
		if err != nil {
			continue
		}
		for _, a := range []api.Attr{{Name: "class", Value: oneOf(r, "k", "l", "k l")}, {Name: "id", Value: oneOf(r, "p", "q")}, {Name: "x"}, {Name: oneOf(r, names()...), Value: oneOf(r, "own", "")}} {
			if r.IntN(4) > 0 {
				continue
			}
			if err := d.Set(n, a.Name, a.Value); err != nil {
				t.Fatal(err)
			}
		}
	}
	return d
}

// paintDown tells one name's style of all elements another way: the first values, then from each rule, the lightest ahead, to all it fits, then the attributes, and from the root down what is inherited.
func paintDown(d *doc.Doc, l []Rule, name, first string, inherited bool) map[int]string {
	set := map[int]string{}
	l = slices.Clone(l)
	slices.SortStableFunc(l, func(a, b Rule) int { return cmp.Compare(a.Where.Weight(), b.Where.Weight()) })
	for _, r := range l {
		for _, n := range pick.All(d, r.Where) {
			if r.Name == name {
				set[n] = r.Value
			}
		}
	}
	for _, n := range d.All() {
		if own, ok := d.Attr(n, name); ok {
			set[n] = own
		}
		if _, ok := set[n]; ok {
			continue
		}
		set[n] = first
		if up := d.Parent(n); inherited && up >= 0 {
			set[n] = set[up]
		}
	}
	return set
}

// P61: many sheets on many documents, against the other way.
func TestAgainstPaintDown(t *testing.T) {
	r := rand.New(rand.NewPCG(6, 60))
	for range 200 {
		d, l := someDoc(t, r), someSheet(t, r)
		for _, c := range []struct {
			name, first string
			inherited   bool
		}{{"fill", "none", true}, {"show", "yes", false}, {"rule", "wind", true}, {"level", "0", false}} {
			want := paintDown(d, l, c.name, c.first, c.inherited)
			for _, n := range d.All() {
				if s := Of(d, l, n, c.name); s != want[n] {
					t.Fatal(c.name, n, s, want[n])
				}
			}
		}
	}
}

// P62: rules that fit nothing, wherever they stand and however heavy they are, change nothing.
func TestFitsNothing(t *testing.T) {
	r := rand.New(rand.NewPCG(6, 62))
	none := sheet(t, "#zz { fill: x }\nz { show: x }\na .z { rule: x }\n[z] { level: x }\n#zz#zz#zz { show: x }\n* > a z { fill: x }\n#p#q { rule: x }\n#p#q#p#q { level: x }\n")
	for range 100 {
		d, l := someDoc(t, r), someSheet(t, r)
		more := slices.Clone(l)
		for _, x := range none {
			more = slices.Insert(more, r.IntN(len(more)+1), x)
			if len(pick.All(d, x.Where)) > 0 {
				t.Fatal(x)
			}
		}
		for _, n := range append(d.All(), -1, 99) {
			for _, name := range append(names(), "what") {
				if a, b := Of(d, l, n, name), Of(d, more, n, name); a != b {
					t.Fatal(n, name, a, b)
				}
			}
		}
	}
}
