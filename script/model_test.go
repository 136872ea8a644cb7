package script

import (
	"fmt"
	"math/rand/v2"
	"regexp"
	"slices"
	"strconv"
	"strings"
	"sync"
	"testing"

	"leadlight/api"
	"leadlight/doc"
	"leadlight/mark"
	"leadlight/paint"
	"leadlight/pick"
	"leadlight/plain"
	"leadlight/scene"
	"leadlight/style"
)

// model of a script: a document and a sheet alone. All else is made anew for each line.
type model struct {
	doc   *doc.Doc
	sheet string
}

// line of a script, by one expression: the word, then numbers, names and texts.
var line = regexp.MustCompile(strings.NewReplacer("N", "(0|[1-9][0-9]{0,6})", "W", "([^ ]*)", "T", "(.*)").Replace(`(?s)^(?:(open) T|(sheet)(?: T)?|(add) N N W|(remove) N|(move) N N N|(set) N W T|(unset) N W|(show)|(text)|(find) T|(style) N W|(pieces)|(count))$`))

// partsOf a line that is one: its word, and what stands for N, W and T.
func partsOf(s string) []string {
	places := line.FindStringSubmatchIndex(s)
	var l []string
	for i := 2; i < len(places); i += 2 {
		if places[i] >= 0 {
			l = append(l, s[places[i]:places[i+1]])
		}
	}
	return l
}

// look of a document by a sheet.
type look struct {
	rules   []style.Rule
	pieces  []scene.Piece
	picture paint.Picture
}

func lookAt(d *doc.Doc, sheet string) (look, error) {
	rules, err := style.Read(sheet)
	if err != nil {
		return look{}, err
	}
	pieces, err := scene.Pieces(d, rules)
	if err != nil {
		return look{}, err
	}
	p, err := paint.Paint(pieces, 8, 6)
	return look{rules, pieces, p}, err
}

// row of a look, as text: the pieces that reach it.
func (l look) row(y int) string {
	s := ""
	for _, one := range l.pieces {
		if paint.Reaches(one, y) {
			s += fmt.Sprintln(one.Shape, one.Fill, one.Rule)
		}
	}
	return s
}

// changed model, if its look is well: the rows that look otherwise.
func (m *model) changed(d *doc.Doc, sheet string) (string, error) {
	was, err := lookAt(m.doc, m.sheet)
	if err != nil {
		return "", err
	}
	is, err := lookAt(d, sheet)
	if err != nil {
		return "", err
	}
	m.doc, m.sheet = d, sheet
	rows := ""
	for y := range 6 {
		if was.row(y) != is.row(y) {
			rows += " " + strconv.Itoa(y)
		}
	}
	return orNothing(rows), nil
}

// orNothing: a list with a blank ahead of each, or that there is none.
func orNothing(s string) string {
	if s == "" {
		return "nothing"
	}
	return strings.TrimPrefix(s, " ")
}

func number(s string) int {
	n, err := strconv.Atoi(s)
	if err != nil {
		panic(err)
	}
	return n
}

// answer of a line, by the document's and the sheet's own packages.
func (m *model) answer(s string) string {
	l := partsOf(s)
	if l == nil {
		return badText
	}
	answer, err := m.change(l)
	if code, _ := plain.Code(err); code > 0 {
		return "leadlight: " + strings.Fields("- text bound shape name none exist full deep cycle value zero")[code]
	}
	return answer
}

func (m *model) change(l []string) (string, error) {
	d, sheet := m.doc.Clone(), m.sheet
	switch l[0] {
	case "open":
		n, err := mark.Read(l[1])
		if err != nil {
			return "", err
		}
		if d, err = doc.New(n); err != nil {
			return "", err
		}
		_, err = m.changed(d, sheet)
		return "ok", err
	case "sheet":
		if sheet = ""; len(l) > 1 && l[1] != "" {
			sheet = strings.Join(strings.Split(l[1], "; "), "\n") + "\n"
		}
		return m.changed(d, sheet)
	case "add":
		n, err := d.Add(number(l[1]), number(l[2]), l[3])
		if err == nil {
			_, err = m.changed(d, sheet)
		}
		return strconv.Itoa(n), err
	}
	var err error
	switch l[0] {
	case "remove":
		err = d.Remove(number(l[1]))
	case "move":
		err = d.Move(number(l[1]), number(l[2]), number(l[3]))
	case "set":
		err = d.Set(number(l[1]), l[2], l[3])
	case "unset":
		err = d.Unset(number(l[1]), l[2])
	default:
		return m.tell(l)
	}
	if err != nil {
		return "", err
	}
	return m.changed(d, sheet)
}

func (m *model) tell(l []string) (string, error) {
	is, err := lookAt(m.doc, m.sheet)
	if err != nil {
		return "", err
	}
	s := ""
	switch l[0] {
	case "show":
		return strings.Join(strings.Split(is.picture.Text(), "\n"), ";"), nil
	case "text":
		return mark.Text(m.doc.Node())
	case "find":
		p, err := pick.Read(l[1])
		if err != nil {
			return "", err
		}
		for _, n := range m.doc.All() {
			if p.Fits(m.doc, n) {
				s += fmt.Sprint(" ", n)
			}
		}
	case "style":
		if value := style.Of(m.doc, is.rules, number(l[1]), l[2]); value != "" {
			return value, nil
		}
	case "pieces":
		for _, one := range is.pieces {
			s += fmt.Sprintf(" %d:%s", one.Node, one.Fill)
		}
	case "count":
		many := map[string]int{}
		for _, cell := range is.picture.Cells {
			many[cell]++
		}
		names := []string{}
		for name := range many {
			names = append(names, name)
		}
		slices.Sort(names)
		for _, name := range names {
			s += fmt.Sprintf(" %s:%d", name, many[name])
		}
	}
	return orNothing(s), nil
}

func modelled(t testing.TB, lines []string) []string {
	t.Helper()
	d, err := doc.New(mark.Node{Name: "group"})
	if err != nil {
		t.Fatal(err)
	}
	m := &model{doc: d}
	answers := []string{}
	for _, s := range lines {
		answers = append(answers, m.answer(s))
	}
	return answers
}

// some lines, from a fixed beginning.
type some struct{ *rand.Rand }

func (r some) oneOf(l ...string) string { return l[r.IntN(len(l))] }

func (r some) number() string { return strconv.Itoa(r.IntN(6)) }

func (r some) element() string {
	box := `<box id="p" w="` + r.number() + `" h="` + r.number() + `" fill="a"/>`
	return r.oneOf(box, "<group>"+box+"</group>", "<group>"+box+`<use of="p" move="move 1 1"/><group class="k"><poly points="0,0 5,0 0,5"/></group></group>`, "<group>"+box+`<group>`+strings.Repeat(box, 3)+"</group></group>", "<use/>", "<A/>", "<a")
}

func (r some) attr() string {
	switch name := r.oneOf("x", "y", "w", "h", "fill", "level", "show", "rule", "move", "points", "of", "id", "class", "data"); name {
	case "x", "y", "w", "h":
		return name + " " + r.oneOf(r.number(), r.number(), r.number()+"/2", "-1", "what")
	case "fill":
		return name + " " + r.oneOf("a", "b", "c", "none", "", "two words", "a:1")
	case "move":
		return name + " " + r.oneOf("turn 1", "move 1 2", "scale 2 1/2", "", "turn 5")
	case "points":
		return name + " " + r.oneOf("0,0 4,0 4,4", "1,1 6,1 6,5 1,5 1,1", "", "1")
	case "rule":
		return name + " " + r.oneOf("wind", "even", "even", "what")
	default:
		return name + " " + r.oneOf("0", "1", "2", "yes", "no", "p", "k", "k l", " ")
	}
}

func (r some) line() string {
	n := r.number()
	selector := r.oneOf("*", "box", "group", "#p", ".k", "[x]", "group > box", "group *", ".k > poly", "group group", ">", "")
	switch r.IntN(18) {
	case 0:
		if r.IntN(4) == 0 {
			return "open " + r.element()
		}
		return "text"
	case 1:
		rule := r.oneOf("*", "box", "#p", ".k", "group box") + " { " + r.oneOf("fill: b", "fill: c", "show: no", "level: 2", "rule: even") + " }"
		return "sheet " + r.oneOf(rule, rule, rule+"; box { fill: d }", "* { level: 1 }; "+rule, "", "what", rule+"\npoly { fill: e }")
	case 2, 3, 4:
		return "add " + n + " " + r.oneOf("0", "0", "0", "1", "2") + " " + r.oneOf("box", "box", "group", "poly", "use", "B")
	case 5:
		return "remove " + n
	case 6:
		return "move " + n + " " + r.number() + " " + r.oneOf("0", "0", "1")
	case 7, 8, 9, 10, 11:
		return "set " + n + " " + r.attr()
	case 12:
		return "unset " + n + " " + r.oneOf("x", "w", "fill", "move", "id", "show", "class", "y")
	case 13:
		return "find " + selector
	case 14:
		return "style " + n + " " + r.oneOf("fill", "fill", "show", "rule", "level", "what")
	default:
		return r.oneOf("show", "pieces", "count", "text", "sheet")
	}
}

// bent line: a byte more, less, or another one.
func (r some) bent(s string) string {
	at := r.IntN(len(s) + 1)
	other := r.oneOf(" ", " ", "0", "1", "a", ";", "\n", "-", "")
	if at == len(s) || r.IntN(2) == 0 {
		return s[:at] + other + s[at:]
	}
	return s[:at] + other + s[at+1:]
}

func (r some) lines(many, bent int) []string {
	lines := []string{"open " + `<group><box id="p" w="3" h="2" fill="a"/><group class="k"><box x="2" y="3" w="4" h="2" fill="b"/></group></group>`}
	for len(lines) < many {
		s := r.line()
		if r.IntN(100) < bent {
			s = r.bent(s)
		}
		lines = append(lines, s)
	}
	return lines
}

// P130, P131: many scripts against the model, some of their lines bent.
func TestModel(t *testing.T) {
	r := some{rand.New(rand.NewPCG(13, 130))}
	kinds := map[string]int{}
	for i := range 600 {
		lines := r.lines(api.MaxLines, i%3*20)
		got, err := Run(lines)
		want := modelled(t, lines)
		if err != nil || len(got) != len(want) {
			t.Fatal(got, err)
		}
		for k := range want {
			if got[k] != want[k] {
				t.Fatalf("%q\n%q: %q, not %q", lines[:k], lines[k], got[k], want[k])
			}
			word, _, _ := strings.Cut(lines[k], " ")
			switch {
			case strings.HasPrefix(got[k], "leadlight: "):
				kinds[got[k]]++
				kinds[word+" wrong"]++
			case got[k] == "nothing":
				kinds[word+" nothing"]++
			default:
				kinds[word]++
			}
		}
	}
	for _, kind := range []string{badText, badBound, badShape, badName, badNone, badCycle, badValue, "open", "open wrong", "sheet", "sheet nothing", "sheet wrong", "add", "add wrong", "remove", "remove nothing", "remove wrong", "move", "move nothing", "move wrong", "set", "set nothing", "set wrong", "unset", "unset nothing", "unset wrong", "show", "text", "find", "find nothing", "find wrong", "style", "style nothing", "pieces", "pieces nothing", "count"} {
		if kinds[kind] < 20 {
			t.Error("too few:", kind, kinds[kind])
		}
	}
}

// P132, P2: the same lines make the same answers, again and side by side.
func TestSame(t *testing.T) {
	r := some{rand.New(rand.NewPCG(13, 132))}
	for range 20 {
		lines := r.lines(api.MaxLines, 10)
		first, err := Run(lines)
		if err != nil {
			t.Fatal(err)
		}
		var all sync.WaitGroup
		for range 8 {
			all.Go(func() {
				if got, err := Run(lines); err != nil || !slices.Equal(got, first) {
					t.Error(lines, got, first, err)
				}
			})
		}
		all.Wait()
	}
}

// P132: behind a script that was cut short, the answers are those of its first lines.
func TestFirstLines(t *testing.T) {
	lines := some{rand.New(rand.NewPCG(13, 131))}.lines(api.MaxLines, 10)
	whole, err := Run(lines)
	if err != nil {
		t.Fatal(err)
	}
	for many := range lines {
		if got, err := Run(lines[:many]); err != nil || !slices.Equal(got, whole[:many]) {
			t.Fatal(many, got, err)
		}
	}
}

// P3, P4: lines are only read, also behind the list's length; answers are new memory.
func TestOnlyRead(t *testing.T) {
	lines := some{rand.New(rand.NewPCG(13, 133))}.lines(api.MaxLines, 10)
	was := slices.Clone(lines)
	first, err := Run(lines[:60])
	if err != nil || !slices.Equal(lines, was) || len(first) != 60 {
		t.Fatal(first, err)
	}
	kept := slices.Clone(first)
	second, err := Run(lines[:60])
	if err != nil {
		t.Fatal(err)
	}
	for i := range second {
		second[i] = "written"
	}
	_ = append(second, "written")
	for i := range lines {
		lines[i] = "written"
	}
	if third, err := Run(was[:60]); err != nil || !slices.Equal(first, kept) || !slices.Equal(third, kept) {
		t.Fatal(first, third, kept, err)
	}
}
