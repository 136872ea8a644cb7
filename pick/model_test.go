package pick

import (
	"math/rand/v2"
	"regexp"
	"slices"
	"strings"
	"testing"

	"leadlight/api"
	"leadlight/doc"
)

const (
	namePattern = `[a-z][a-z0-9-]{0,11}`
	partPattern = `(?:[#.]` + namePattern + `|\[` + namePattern + `\])`
	stepPattern = `(?:(?:\*|` + namePattern + `)` + partPattern + `{0,8}|` + partPattern + `{1,8})`
)

// P50: all short texts of these bytes are read, or not, as the document's words are as a pattern.
func TestReadAllShort(t *testing.T) {
	pattern := regexp.MustCompile(`\A` + stepPattern + `(?: (?:> )?` + stepPattern + `){0,4}\z`)
	const bytes = "a1*#.[]> "
	right := 0
	var try func(s string, left int)
	try = func(s string, left int) {
		p, err := Read(s)
		want := pattern.MatchString(s)
		if want && (err != nil || p.Text() != s) || !want && (err != api.ErrText || p.Text() != "") {
			t.Error(s, err, p.Text(), "want", want)
		}
		if want {
			right++
		}
		for i := 0; left > 0 && i < len(bytes); i++ {
			try(s+bytes[i:i+1], left-1)
		}
	}
	try("", 6)
	if right < 100 {
		t.Error(right)
	}
}

// rung of another selector, made of lists: its own words, and whether it lies right below the one ahead.
type rung struct {
	right              bool
	name               string
	ids, classes, have []string
}

func (r rung) text() string {
	s := r.name
	for _, x := range r.ids {
		s += "#" + x
	}
	for _, x := range r.classes {
		s += "." + x
	}
	for _, x := range r.have {
		s += "[" + x + "]"
	}
	return s
}

func ladderText(l []rung) string {
	s := l[0].text()
	for _, r := range l[1:] {
		if r.right {
			s += " >"
		}
		s += " " + r.text()
	}
	return s
}

func (r rung) weight() int {
	w := 100*len(r.ids) + 10*len(r.classes) + 10*len(r.have)
	if r.name != "" && r.name != "*" {
		w++
	}
	return w
}

func (r rung) fits(d *doc.Doc, n int) bool {
	id, _ := d.Attr(n, "id")
	class, _ := d.Attr(n, "class")
	ok := r.name == "" || r.name == "*" || r.name == d.Name(n)
	for _, x := range r.ids {
		ok = ok && x == id
	}
	for _, x := range r.classes {
		ok = ok && strings.Contains(" "+class+" ", " "+x+" ")
	}
	for _, x := range r.have {
		_, has := d.Attr(n, x)
		ok = ok && has
	}
	return ok
}

// climb from the first step down: of each one all that fit so far, where Fits goes from the element up.
func climb(d *doc.Doc, l []rung) []int {
	var now []int
	for i, r := range l {
		var then []int
		for _, n := range d.All() {
			if r.fits(d, n) && (i == 0 || isBelow(d, n, now, r.right)) {
				then = append(then, n)
			}
		}
		now = then
	}
	return now
}

func isBelow(d *doc.Doc, n int, l []int, right bool) bool {
	for up := d.Parent(n); up >= 0; up = d.Parent(up) {
		if slices.Contains(l, up) {
			return true
		}
		if right {
			break
		}
	}
	return false
}

func oneOf(r *rand.Rand, l ...string) string { return l[r.IntN(len(l))] }

func someOf(r *rand.Rand, l ...string) []string {
	var out []string
	for r.IntN(4) == 0 && len(out) < 2 {
		out = append(out, oneOf(r, l...))
	}
	return out
}

func someLadder(r *rand.Rand) []rung {
	l := make([]rung, 1+r.IntN(api.MaxSteps))
	for i := range l {
		l[i] = rung{right: i > 0 && r.IntN(2) == 0, name: oneOf(r, "", "*", "a", "b", "b"), ids: someOf(r, "p", "q"), classes: someOf(r, "k", "l"), have: someOf(r, "id", "class", "x")}
		if l[i].text() == "" {
			l[i].name = "*"
		}
	}
	return l
}

// someDoc, deep rather than wide, so that steps have something to go up.
func someDoc(t *testing.T, r *rand.Rand) *doc.Doc {
	d := open(t, "<a/>")
	for range 25 {
		all := d.All()
		n, err := d.Add(all[len(all)-1-r.IntN(min(3, len(all)))], 0, oneOf(r, "a", "b"))
		if err != nil {
			continue
		}
		for _, a := range []api.Attr{{Name: "id", Value: oneOf(r, "p", "q", "p q")}, {Name: "class", Value: oneOf(r, "k", "l", "k l", " l  k", "kl")}, {Name: "x"}} {
			if r.IntN(2) > 0 {
				continue
			}
			if err := d.Set(n, a.Name, a.Value); err != nil {
				t.Fatal(err)
			}
		}
	}
	return d
}

// P50, P51, P52: many selectors on many documents, against the other way; and what fits fits the last step.
func TestAgainstLadders(t *testing.T) {
	r := rand.New(rand.NewPCG(5, 50))
	many := 0
	for range 60 {
		d := someDoc(t, r)
		for range 60 {
			l := someLadder(r)
			s := ladderText(l)
			p := read(t, s)
			weight := 0
			for _, x := range l {
				weight += x.weight()
			}
			all := All(d, p)
			if want := climb(d, l); !slices.Equal(all, want) || p.Text() != s || p.Weight() != weight {
				t.Fatal(s, all, want, p.Weight(), weight)
			}
			last := read(t, l[len(l)-1].text())
			for _, n := range all {
				if !p.Fits(d, n) || !last.Fits(d, n) {
					t.Fatal(s, n, last.Text())
				}
			}
			if len(l) > 2 {
				many += len(all)
			}
		}
	}
	if many < 500 {
		t.Error("too few fit:", many)
	}
}
