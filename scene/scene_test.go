package scene

import (
	"slices"
	"strconv"
	"strings"
	"testing"

	"leadlight/api"
	"leadlight/doc"
	"leadlight/frac"
	"leadlight/mark"
	"leadlight/style"
)

func open(t testing.TB, s string) *doc.Doc {
	t.Helper()
	n, err := mark.Read(s)
	if err != nil {
		t.Fatal(s, err)
	}
	d, err := doc.New(n)
	if err != nil {
		t.Fatal(s, err)
	}
	return d
}

func sheet(t testing.TB, s string) []style.Rule {
	t.Helper()
	l, err := style.Read(s)
	if err != nil {
		t.Fatal(s, err)
	}
	return l
}

// told of a piece: NODE FILL RULE LEVEL and its points; `;` between pieces.
func told(l []Piece) string {
	var out []string
	for _, p := range l {
		words := []string{strconv.Itoa(p.Node), p.Fill, p.Rule, strconv.Itoa(p.Level)}
		for _, q := range p.Shape.Points {
			words = append(words, frac.Text(q.X)+","+frac.Text(q.Y))
		}
		out = append(out, strings.Join(words, " "))
	}
	return strings.Join(out, ";")
}

func checkPieces(t *testing.T, text, rules, want string) {
	t.Helper()
	l, err := Pieces(open(t, text), sheet(t, rules))
	if s := told(l); s != want || err != nil {
		t.Errorf("%s: %q %v, want %q", text, s, err, want)
	}
}

// P80: a box by its corner and sides, each of which may be missing, and be any fraction.
func TestBox(t *testing.T) {
	for _, c := range []struct{ text, want string }{
		{`<box fill="a"/>`, "0 a wind 0 0,0 0,0 0,0 0,0"},
		{`<box fill="a" x="1"/>`, "0 a wind 0 1,0 1,0 1,0 1,0"},
		{`<box fill="a" y="1"/>`, "0 a wind 0 0,1 0,1 0,1 0,1"},
		{`<box fill="a" w="1"/>`, "0 a wind 0 0,0 1,0 1,0 0,0"},
		{`<box fill="a" h="1"/>`, "0 a wind 0 0,0 0,0 0,1 0,1"},
		{`<box fill="a" h="-1/2" w="2" y="3" x="1/3"/>`, "0 a wind 0 1/3,3 7/3,3 7/3,5/2 1/3,5/2"},
		{`<box fill="a" x="-1000" y="-1000" w="2000" h="2000"/>`, "0 a wind 0 -1000,-1000 1000,-1000 1000,1000 -1000,1000"},
		{`<box fill="a" points="what" of="what"/>`, "0 a wind 0 0,0 0,0 0,0 0,0"},
		{`<box fill="a" x="1"><box fill="b"/><poly points="what"/></box>`, "0 a wind 0 1,0 1,0 1,0 1,0"},
	} {
		checkPieces(t, c.text, "", c.want)
	}
}

// P80: a poly by its points, which may be missing, or none.
func TestPoly(t *testing.T) {
	for _, c := range []struct{ text, want string }{
		{`<poly fill="a"/>`, "0 a wind 0"},
		{`<poly fill="a" points=""/>`, "0 a wind 0"},
		{`<poly fill="a" points="1,2"/>`, "0 a wind 0 1,2"},
		{`<poly fill="a" points="1/2,-3 0,0 4,5/6 0,0"/>`, "0 a wind 0 1/2,-3 0,0 4,5/6 0,0"},
		{`<poly fill="a" x="what" y="what" w="what" h="what" of="what"/>`, "0 a wind 0"},
		{`<poly fill="a"><box fill="b"/><box x="what"/></poly>`, "0 a wind 0"},
	} {
		checkPieces(t, c.text, "", c.want)
	}
}

// P80: a group is its children, in order, groups in groups too; other elements are nothing, nor is what lies in them.
func TestGroup(t *testing.T) {
	for _, c := range []struct{ text, want string }{
		{`<group/>`, ""},
		{`<group fill="a"/>`, ""},
		{`<group fill="a"><poly/><group><poly/><group><poly/></group></group><poly/></group>`, "1 a wind 0;3 a wind 0;5 a wind 0;6 a wind 0"},
		{`<group fill="a" x="what" y="what" w="what" h="what" points="what" of="what"><poly/></group>`, "1 a wind 0"},
		{`<other fill="a"><poly/></other>`, ""},
		{`<group fill="a"><other><poly/><box x="what"/></other><boxes/><b/><poly/><polys/><group-a><poly/></group-a><uses of="what"/></group>`, "6 a wind 0"},
		{`<group fill="a"><other move="what" x="what" points="what" of="what" show="no"/></group>`, ""},
	} {
		checkPieces(t, c.text, "", c.want)
	}
}

// P80: a use shows another element in its own place, ahead or behind, also of another use, and not its own children.
func TestUse(t *testing.T) {
	for _, c := range []struct{ text, want string }{
		{`<group><poly id="p" fill="a"/><use of="p"/></group>`, "1 a wind 0;1 a wind 0"},
		{`<group><use of="p"/><poly fill="b"/><poly id="p" fill="a"/></group>`, "3 a wind 0;2 b wind 0;3 a wind 0"},
		{`<group fill="a"><group id="p"><poly/><poly/></group><use of="p"/></group>`, "2 a wind 0;3 a wind 0;2 a wind 0;3 a wind 0"},
		{`<group fill="a"><use id="q" of="p"/><poly id="p"/><use of="q"/></group>`, "2 a wind 0;2 a wind 0;2 a wind 0"},
		{`<group fill="a"><group><use of="p"/><poly/></group><group><poly id="p"/></group></group>`, "5 a wind 0;3 a wind 0;5 a wind 0"},
		{`<group fill="a"><other><poly id="p"/></other><use of="p"/></group>`, "2 a wind 0"},
		{`<group fill="a"><other id="p"><poly/></other><use of="p"/></group>`, ""},
		{`<group fill="a"><poly id="p"/><use of="p"><poly/><box x="what"/></use></group>`, "1 a wind 0;1 a wind 0"},
		{`<group fill="a"><poly id="p"/><use of="p" x="what" y="what" w="what" h="what" points="what"/></group>`, "1 a wind 0;1 a wind 0"},
		{`<group fill="a"><box><poly id="p"/></box><use of="p"/></group>`, "1 a wind 0 0,0 0,0 0,0 0,0;2 a wind 0"},
	} {
		checkPieces(t, c.text, "", c.want)
	}
}

// P80: of several elements of one id the first of doc.All counts, not the one of the least number; ids are held against each other to the byte.
func TestUseFirst(t *testing.T) {
	checkPieces(t, `<group fill="a"><other><poly id="p" points="1,1"/></other><poly id="p" points="2,2"/><use of="p"/></group>`, "", "3 a wind 0 2,2;2 a wind 0 1,1")
	checkPieces(t, `<group fill="a"><poly id="P"/><poly id=" p"/><poly id="pp"/><poly/><poly id="p b" points="1,1"/><use of="p b"/></group>`, "", "1 a wind 0;2 a wind 0;3 a wind 0;4 a wind 0;5 a wind 0 1,1;5 a wind 0 1,1")
	checkPieces(t, `<group fill="a"><poly/><poly id="" points="1,1"/><use of=""/></group>`, "", "1 a wind 0;2 a wind 0 1,1;2 a wind 0 1,1")
	d := open(t, `<group fill="a"><use of="p"/><poly id="p"/></group>`)
	for _, points := range []string{"3,3", "4,4"} {
		n, err := d.Add(0, 0, "poly")
		if err != nil || d.Set(n, "id", "p") != nil || d.Set(n, "points", points) != nil {
			t.Fatal(n, err)
		}
	}
	l, err := Pieces(d, nil)
	if s := told(l); s != "4 a wind 0 4,4;3 a wind 0 3,3;4 a wind 0 4,4;2 a wind 0" || err != nil {
		t.Error(s, err)
	}
}

// P80: an element's own move is first, then that of what it lies in; of what a use leads to the use's, and not what it lies in at its own place.
func TestMoves(t *testing.T) {
	for _, c := range []struct{ text, want string }{
		{`<poly fill="a" move="move 1 2" points="1,1"/>`, "0 a wind 0 2,3"},
		{`<poly fill="a" move="" points="1,1"/>`, "0 a wind 0 1,1"},
		{`<box fill="a" move="turn 1" x="1" y="2" w="3" h="1/2"/>`, "0 a wind 0 -2,1 -2,4 -5/2,4 -5/2,1"},
		{`<poly fill="a" move="move 1 0 turn 1" points="1,0"/>`, "0 a wind 0 1,1"},
		{`<group move="move 10 20"><poly fill="a" move="scale 2 3" points="1,1"/></group>`, "1 a wind 0 12,23"},
		{`<group move="scale 2 3"><poly fill="a" move="move 10 20" points="1,1"/></group>`, "1 a wind 0 22,63"},
		{`<group move="turn 1"><group move="skew 2"><poly fill="a" move="move 1 0" points="1,1"/></group><poly fill="b" points="1,1"/></group>`, "2 a wind 0 -1,4;3 b wind 0 -1,1"},
		{`<group move="move 100 0"><poly id="p" fill="a" points="1,1"/><use of="p" move="scale 2 2"/></group>`, "1 a wind 0 101,1;1 a wind 0 102,2"},
		{`<group><group move="move 100 0"><poly id="p" fill="a" move="move 1 0" points="1,1"/></group><use of="p" move="scale 2 2"/></group>`, "2 a wind 0 102,1;2 a wind 0 4,2"},
		{`<group><poly id="p" fill="a" points="1,0"/><use id="q" of="p" move="move 1 0"/><use of="q" move="scale 3 3"/></group>`, "1 a wind 0 1,0;1 a wind 0 2,0;1 a wind 0 6,0"},
		{`<group><use of="g" move="move 1 0"/><group id="g" move="scale 5 5"><poly fill="a" points="1,0"/></group></group>`, "3 a wind 0 6,0;3 a wind 0 5,0"},
		{`<group><other move="move 9 9"><poly id="p" fill="a" points="1,0"/></other><use of="p"/></group>`, "2 a wind 0 1,0"},
		{`<group move="scale 1000 1000"><poly fill="a" move="scale 1/1000 1/1000" points="999,-1/7"/></group>`, "1 a wind 0 999,-1/7"},
	} {
		checkPieces(t, c.text, "", c.want)
	}
}

// P81: Fill and Rule are the style of the element at its own place, also behind a use; what is filled with `none` is left out, and nothing else is.
func TestFillAndRule(t *testing.T) {
	for _, c := range []struct{ text, rules, want string }{
		{`<poly/>`, "", ""}, {`<poly fill="none"/>`, "", ""}, {`<poly fill=""/>`, "", "0  wind 0"}, {`<poly fill="None" rule=""/>`, "", "0 None  0"}, {`<poly fill="a &amp; b" rule="what"/>`, "", "0 a & b what 0"},
		{`<group fill="a" rule="even"><poly/><poly fill="b" rule="wind"/><poly fill="none"/></group>`, "", "1 a even 0;2 b wind 0"},
		{`<group fill="a"><poly id="p"/><use of="p" fill="b" rule="even" level="3"/></group>`, "", "1 a wind 0;1 a wind 0"},
		{`<group><poly id="p"/><group fill="b" rule="even"><use of="p"/></group></group>`, "", ""},
		{`<group><group fill="a" rule="even"><poly id="p"/></group><group fill="none"><use of="p"/></group></group>`, "", "2 a even 0;2 a even 0"},
		{`<group><poly/><group><poly/></group></group>`, "poly { fill: a }\ngroup group poly { rule: even }\n", "1 a wind 0;3 a even 0"},
		{`<group><poly id="p"/><group class="k"><use of="p"/></group></group>`, "poly { fill: a }\n.k poly { fill: b }\nuse poly { fill: b }\n", "1 a wind 0;1 a wind 0"},
		{`<group><poly/><box/></group>`, "* { fill: a }\nbox { fill: none }\n", "1 a wind 0"},
	} {
		checkPieces(t, c.text, c.rules, c.want)
	}
}

// P81: what is not shown: its own style says so, by an attribute or a rule, and with `no` alone; all below goes with it, unless a use leads there.
func TestShow(t *testing.T) {
	for _, c := range []struct{ text, rules, want string }{
		{`<poly fill="a" show="no"/>`, "", ""}, {`<group fill="a" show="no"><poly/></group>`, "", ""}, {`<poly fill="a" show="yes"/>`, "", "0 a wind 0"}, {`<poly fill="a" show=""/>`, "", "0 a wind 0"}, {`<poly fill="a" show="No"/>`, "", "0 a wind 0"}, {`<poly fill="a" show="no "/>`, "", "0 a wind 0"},
		{`<group fill="a"><group show="no"><poly/><group><poly show="yes"/></group></group><poly/></group>`, "", "5 a wind 0"},
		{`<group fill="a"><poly show="no"/><poly/><poly show="no"/></group>`, "", "2 a wind 0"},
		{`<group fill="a"><poly/><poly show="yes"/></group>`, "poly { show: no }\n", "2 a wind 0"},
		{`<group fill="a"><group><poly/></group></group>`, "group group { show: no }\n", ""},
		{`<group fill="a"><poly id="p"/><use of="p" show="no"/></group>`, "", "1 a wind 0"},
		{`<group fill="a"><poly id="p" show="no"/><use of="p"/><use of="p" show="yes"/></group>`, "", ""},
		{`<group fill="a"><poly id="p" show="no"/><poly id="p"/><use of="p"/></group>`, "", "2 a wind 0"},
		{`<group fill="a"><group show="no"><poly id="p"/></group><use of="p"/></group>`, "", "2 a wind 0"},
	} {
		checkPieces(t, c.text, c.rules, c.want)
	}
}

// P81: Level: at most three digits without needless zeros, of the element itself; what is none is 0.
func TestLevel(t *testing.T) {
	levels := map[string]int{"0": 0, "1": 1, "9": 9, "10": 10, "42": 42, "100": 100, "998": 998, "999": 999}
	for _, s := range []string{"", " ", "1000", "1001", "9999", "00", "01", "001", "010", "-1", "-0", "+1", "1 ", " 1", "1.0", "1/1", "1e1", "0x1", "1_0", "a", "1a", "a1", "12345678901234567890123", "-9223372036854775808", "18446744073709551617"} {
		levels[s] = 0
	}
	for s, want := range levels {
		checkPieces(t, `<poly fill="a" level="`+s+`"/>`, "", "0 a wind "+strconv.Itoa(want))
	}
	checkPieces(t, `<group fill="a" level="5"><poly/></group>`, "", "1 a wind 0")
	checkPieces(t, `<group fill="a"><poly/><poly level="x"/><poly level="7"/></group>`, "poly { level: 12 }\n", "2 a wind 0;3 a wind 7;1 a wind 12")
	checkPieces(t, `<group fill="a"><poly/></group>`, "poly { level: 012 }\n", "1 a wind 0")
}

// P81: sorted by Level as numbers; those of the same one stay in their order, in which a use's stand at the use.
func TestOrder(t *testing.T) {
	checkPieces(t, `<group fill="a"><poly level="10"/><poly level="9"/><poly/><poly level="100"/><poly level="9"/><poly level="0"/></group>`, "", "3 a wind 0;6 a wind 0;2 a wind 9;5 a wind 9;1 a wind 10;4 a wind 100")
	checkPieces(t, `<group fill="a"><use of="p"/><poly level="1"/><group id="p"><poly level="1"/><poly/></group><poly level="1"/><use of="p" level="9"/></group>`, "", "5 a wind 0;5 a wind 0;5 a wind 0;4 a wind 1;2 a wind 1;4 a wind 1;6 a wind 1;4 a wind 1")
	var many strings.Builder
	var low, high []string
	for i := range 98 {
		many.WriteString(`<poly level="` + strconv.Itoa(i%2) + `"/>`)
		s := strconv.Itoa(i+1) + " a wind " + strconv.Itoa(i%2)
		if i%2 == 0 {
			low = append(low, s)
		} else {
			high = append(high, s)
		}
	}
	checkPieces(t, `<group fill="a">`+many.String()+`</group>`, "", strings.Join(slices.Concat(low, high), ";"))
}

// P81, P3: no document is bare ErrShape; one that no call gave has nothing to show.
func TestNoDocument(t *testing.T) {
	if l, err := Pieces(nil, sheet(t, "* { fill: a }\n")); len(l) > 0 || err != api.ErrShape {
		t.Error(l, err)
	}
	if l, err := Pieces(&doc.Doc{}, nil); len(l) > 0 || err != nil {
		t.Error(l, err)
	}
}

// P40, P80: what was changed in the document shows in the next answer, by its numbers there.
func TestChanged(t *testing.T) {
	d := open(t, `<group fill="a"><poly/><group><poly id="p"/></group><use of="p"/></group>`)
	check := func(want string, errs ...error) {
		t.Helper()
		l, err := Pieces(d, nil)
		if s := told(l); s != want || err != nil {
			t.Error(s, err, "want", want)
		}
		for _, err := range errs {
			if err != nil {
				t.Error(err)
			}
		}
	}
	check("1 a wind 0;3 a wind 0;3 a wind 0")
	_, err := d.Add(0, 0, "box")
	check("5 a wind 0 0,0 0,0 0,0 0,0;1 a wind 0;3 a wind 0;3 a wind 0", err)
	check("1 a wind 0;3 a wind 0;3 a wind 0;5 a wind 0 1,0 1,0 1,0 1,0", d.Move(5, 2, 1), d.Set(5, "x", "1"), d.Move(4, 2, 1))
	check("1 a wind 0", d.Remove(2))
}
