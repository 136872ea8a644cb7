package scene

import (
	"errors"
	"strings"
	"testing"

	"leadlight/api"
	"leadlight/doc"
)

// checkFault tells whether nothing but a place and the very error was answered.
func checkFault(t *testing.T, d *doc.Doc, rules string, at int, want error) {
	t.Helper()
	l, err := Pieces(d, sheet(t, rules))
	var f *api.Fault
	if len(l) > 0 || !errors.As(err, &f) || f != err || f.At != at || f.Err != want {
		t.Errorf("%v %#v, want %v at %d", told(l), err, want, at)
	}
}

// texts of fractions that are refused, by the scene's error.
func wrongFracs() map[string]error {
	return map[string]error{
		"": api.ErrValue, " ": api.ErrValue, "y": api.ErrValue, "+1": api.ErrValue, "01": api.ErrValue, "-0": api.ErrValue, "1/1": api.ErrValue, "1.5": api.ErrValue, "1 ": api.ErrValue, "12345678901": api.ErrValue,
		"2/4": api.ErrValue, "1/0": api.ErrValue, "0/2": api.ErrValue,
		"2147483648": api.ErrBound, "-2147483648": api.ErrBound, "1073741825": api.ErrBound, "1/1073741825": api.ErrBound,
	}
}

// P81: each attribute of a box, alone and also where the box has no fill; then the Box.
func TestFaultBox(t *testing.T) {
	for s, err := range wrongFracs() {
		for _, name := range []string{"x", "y", "w", "h"} {
			checkFault(t, open(t, `<box `+name+`="`+s+`"/>`), "", 0, err)
			checkFault(t, open(t, `<group><poly/><box fill="a" `+name+`="`+s+`"/></group>`), "", 2, err)
		}
	}
	for _, s := range []string{`x="1001"`, `y="-1001"`, `w="1001"`, `h="-1001"`, `x="1/21"`, `x="1000" w="1/20"`, `x="1/3" w="1/7"`, `x="1073741824" w="1073741824"`, `y="1073741824" h="1"`, `x="-1073741824"`} {
		checkFault(t, open(t, `<box `+s+`/>`), "", 0, api.ErrBound)
		checkFault(t, open(t, `<group><box show="no"/><box fill="a" `+s+`/></group>`), "", 2, api.ErrBound)
	}
}

// P81: points of a poly, a use's `of`, moves of all four.
func TestFaultOthers(t *testing.T) {
	for s, err := range map[string]error{
		"1": api.ErrValue, " ": api.ErrValue, "1,": api.ErrValue, "1,2 ": api.ErrValue, "1,2  3,4": api.ErrValue, "1,2/4": api.ErrValue, "1,y": api.ErrValue, "1,1001": api.ErrBound, "-1001,0": api.ErrBound, "0,0 1/21,0": api.ErrBound,
		strings.TrimSpace(strings.Repeat("0,0 ", 31)): api.ErrBound,
	} {
		checkFault(t, open(t, `<poly points="`+s+`"/>`), "", 0, err)
	}
	for _, s := range []string{`<use/>`, `<use of=""/>`, `<use of="y"/>`, `<use of="P"/>`, `<use of="#p"/>`, `<use of=" p"/>`, `<use id="p"/>`, `<use of="box"/>`} {
		checkFault(t, open(t, `<group><box id="p"/>`+s+`</group>`), "", 2, api.ErrValue)
	}
	checkFault(t, open(t, `<group><box id=""/><use/></group>`), "", 2, api.ErrValue)
	for s, err := range map[string]error{
		" ": api.ErrValue, "what": api.ErrValue, "move": api.ErrValue, "move 1": api.ErrValue, "move 1 y": api.ErrValue, "move 1 2 ": api.ErrValue, "move 2/4 0": api.ErrValue, "turn 4": api.ErrValue, "turn -1": api.ErrValue, "scale 1/0 1": api.ErrValue,
		"move 2147483648 0": api.ErrBound, "skew 1/1073741825": api.ErrBound, "scale 1000000 1 scale 1000000 1": api.ErrBound,
	} {
		for _, name := range []string{"box", "poly", "group"} {
			checkFault(t, open(t, `<`+name+` move="`+s+`"/>`), "", 0, err)
		}
		checkFault(t, open(t, `<group><box id="p"/><use of="p" move="`+s+`"/></group>`), "", 2, err)
	}
}

// P81: where a move and that of what it lies in are too great together, or where the shape is behind them.
func TestFaultMoved(t *testing.T) {
	for _, name := range []string{"box", "poly", "group"} {
		checkFault(t, open(t, `<group move="scale 100000 1"><`+name+` move="scale 100000 1"/></group>`), "", 1, api.ErrBound)
		checkFault(t, open(t, `<group><`+name+` id="p" move="scale 100000 1"/><use of="p" move="scale 100000 1"/></group>`), "", 1, api.ErrBound)
	}
	checkFault(t, open(t, `<group move="scale 100000 1"><use of="y" move="scale 100000 1"/></group>`), "", 1, api.ErrBound)
	for _, s := range []string{`<box x="11"/>`, `<box w="-11"/>`, `<poly points="0,0 11,0"/>`, `<poly points="10,0" move="move 1/100 0"/>`, `<poly points="1/20,0" move="scale 1/2 1 scale 1/100 1"/>`} {
		checkFault(t, open(t, `<group move="scale 100 1"><poly/>`+s+`</group>`), "", 2, api.ErrBound)
	}
	checkFault(t, open(t, `<poly points="1/3,0" move="scale 1/7 1"/>`), "", 0, api.ErrBound)
	checkPieces(t, `<group move="scale 100 1"><box fill="a" x="10"/></group>`, "", "1 a wind 0 1000,0 1000,0 1000,0 1000,0")
}

// P81, P3: of several things that are wrong in one element the first named one is told: move, x, y, w, h, the Box, the shape's move.
func TestFaultOrder(t *testing.T) {
	for _, c := range []struct {
		text string
		err  error
	}{
		{`<box move="what" x="2147483648"/>`, api.ErrValue}, {`<box x="y" move="move 2147483648 0"/>`, api.ErrBound},
		{`<box y="2147483648" x="y"/>`, api.ErrValue}, {`<box y="y" x="2147483648"/>`, api.ErrBound},
		{`<box w="2147483648" y="y"/>`, api.ErrValue}, {`<box w="y" y="2147483648"/>`, api.ErrBound},
		{`<box h="2147483648" w="y"/>`, api.ErrValue}, {`<box h="y" w="2147483648"/>`, api.ErrBound},
		{`<box x="1001" h="y"/>`, api.ErrValue}, {`<box x="1073741824" w="1073741824" h="2/4"/>`, api.ErrValue},
		{`<poly move="what" points="0,1001"/>`, api.ErrValue}, {`<poly points="y" move="move 2147483648 0"/>`, api.ErrBound},
		{`<poly points="600,0 y" move="scale 2 1"/>`, api.ErrValue}, {`<box x="600" y="y" move="scale 2 1"/>`, api.ErrValue},
		{`<use of="y" move="move 2147483648 0"/>`, api.ErrBound}, {`<use move="move 2/4 2147483648"/>`, api.ErrValue},
	} {
		checkFault(t, open(t, c.text), "", 0, c.err)
	}
	// What it has of what it lies in is of its move too.
	checkFault(t, open(t, `<group move="scale 100000 1"><box move="scale 100000 1" x="y"/></group>`), "", 1, api.ErrBound)
	checkFault(t, open(t, `<group move="scale 100000 1"><poly move="scale 100000 1" points="y"/></group>`), "", 1, api.ErrBound)
	checkFault(t, open(t, `<group move="scale 100000 1"><poly move="scale 100000 what" points="y"/></group>`), "", 1, api.ErrValue)
}

// P81: of several elements that are not well the one that is come to first is told.
func TestFaultFirst(t *testing.T) {
	for _, c := range []struct {
		text string
		at   int
		err  error
	}{
		{`<group><box x="y"/><poly points="1,1001"/></group>`, 1, api.ErrValue},
		{`<group><poly points="1,1001"/><box x="y"/></group>`, 1, api.ErrBound},
		{`<group move="what"><poly points="1,1001"/></group>`, 0, api.ErrValue},
		{`<group><group><poly/><poly points="1,1001"/></group><box x="y"/></group>`, 3, api.ErrBound},
		{`<group><use of="p"/><box x="y"/><poly id="p" points="1,1001"/></group>`, 3, api.ErrBound},
		{`<group><use of="p" move="what"/><box x="y"/><poly id="p" points="1,1001"/></group>`, 1, api.ErrValue},
		{`<group><poly id="p" points="600,0"/><use of="p" move="scale 2 1"/><box x="y"/></group>`, 1, api.ErrBound},
		{`<group><box level="9" x="y"/><box level="1" x="1001"/></group>`, 1, api.ErrValue},
		{`<group><other><box x="y"/></other><box><box x="y"/></box><poly><box x="y"/></poly><poly id="p"/><use of="p"><box x="y"/></use><box x="1001"/></group>`, 10, api.ErrBound},
	} {
		checkFault(t, open(t, c.text), "", c.at, c.err)
	}
	d := open(t, `<group><box x="y"/></group>`)
	n, err := d.Add(0, 0, "poly")
	if err != nil || n != 2 || d.Set(2, "points", "1,1001") != nil {
		t.Fatal(n, err)
	}
	checkFault(t, d, "", 2, api.ErrBound)
}

// P81: a rule that shows what is not well, and one that hides it.
func TestFaultByRule(t *testing.T) {
	d := open(t, `<group><box class="k" x="y"/><box x="1001"/></group>`)
	checkFault(t, d, "", 1, api.ErrValue)
	checkFault(t, d, ".k { show: no }\n", 2, api.ErrBound)
	checkFault(t, d, "* { show: no }\ngroup { show: yes }\n.k { show: what }\n", 1, api.ErrValue)
	if l, err := Pieces(d, sheet(t, "box { show: no }\n")); len(l) > 0 || err != nil {
		t.Error(l, err)
	}
}

// P81: ErrCycle is told of the element that is come to again within itself, whatever lies between.
func TestCycle(t *testing.T) {
	for _, c := range []struct {
		text string
		at   int
	}{
		{`<use id="x" of="x"/>`, 0},
		{`<group id="x"><use of="x"/></group>`, 0},
		{`<group><group id="x"><group><use of="x"/></group></group></group>`, 1},
		{`<group><group><use id="x" of="x"/></group></group>`, 2},
		{`<group><use id="x" of="y"/><use id="y" of="x"/></group>`, 1},
		{`<group><use of="y"/><use id="x" of="y"/><use id="y" of="x"/></group>`, 3},
		{`<group><use of="x"/><group id="x"><use of="y"/></group><group id="y"><use of="x"/></group></group>`, 2},
		{`<group><use of="x"/><other><group id="x"><use of="x"/></group></other></group>`, 3},
		{`<group><group id="x"><use of="x"/><box x="y"/></group><box x="y"/></group>`, 1},
	} {
		checkFault(t, open(t, c.text), "", c.at, api.ErrCycle)
	}
	checkFault(t, open(t, `<group id="x"><box x="1001"/><use of="x"/></group>`), "", 1, api.ErrBound)
	checkFault(t, open(t, `<group id="x"><use of="x" move="what"/></group>`), "", 1, api.ErrValue)
	// Again, but not within itself; or not shown, or not gone into.
	checkPieces(t, `<group fill="a"><poly id="p"/><use of="p"/><group><use of="p"/></group></group>`, "", "1 a wind 0;1 a wind 0;1 a wind 0")
	checkPieces(t, `<group id="x" fill="a"><use of="x" show="no"/><group show="no" id="y"><use of="y"/></group><poly/></group>`, "", "4 a wind 0")
	checkPieces(t, `<group fill="a"><other id="x"><use of="x"/></other><poly id="y"><use of="y"/></poly><use of="x"/><use of="y"/></group>`, "", "3 a wind 0;3 a wind 0")
}

func repeated(s string, n int) string { return strings.Repeat(s, n) }

// P81: MaxNodes are come to, and one more: each counts as often as it is come to, also a use, what is not shown, and what shows nothing; what lies in these does not.
func TestFull(t *testing.T) {
	for _, c := range []struct{ ahead, inner string }{{"<poly/>", ""}, {`<poly show="no"/>`, ""}, {"<other/>", ""}, {"<group/>", ""}, {`<group show="no">`, "<poly/></group>"}, {"<other>", "<poly/></other>"}, {"<poly>", "<poly/></poly>"}} {
		one, lies := c.ahead+c.inner, strings.Count(c.ahead+c.inner, "<poly/></")
		// The root, 1 and 40 in it, the use, again 1 and 40 in it, and 16 more: 100.
		text := func(more int) *doc.Doc {
			return open(t, `<group><group id="x">`+repeated("<poly/>", 40)+`</group><use of="x"/>`+repeated(one, more)+`</group>`)
		}
		if l, err := Pieces(text(16), nil); len(l) > 0 || err != nil {
			t.Error(one, l, err)
		}
		checkFault(t, text(17), "", 43+16*(1+lies), api.ErrFull)
	}
	// The root, 1 and 49 in it, the use, again 1 and 47 in it: 100, and the 48th is one more.
	checkFault(t, open(t, `<group><group id="x">`+repeated("<poly/>", 49)+`</group><use of="x"/></group>`), "", 49, api.ErrFull)
	checkFault(t, open(t, `<group><group id="x">`+repeated("<poly/>", 48)+`</group><use of="x"/><poly/></group>`), "", 51, api.ErrFull)
	if l, err := Pieces(open(t, `<group>`+repeated("<poly/>", 99)+`</group>`), nil); len(l) > 0 || err != nil {
		t.Error(l, err)
	}
}

// P81, P3: ErrFull is told ahead of what else is wrong there, and behind ErrCycle and what was come to earlier; where it is told it hangs on no shape.
func TestFullOrder(t *testing.T) {
	full := `<group id="r"><group id="x">` + repeated("<poly/>", 40) + `</group><use of="x"/>` + repeated("<poly/>", 16)
	for _, s := range []string{`<box x="y"/>`, `<box x="y" show="no"/>`, `<group move="what"/>`, `<other/>`, `<use of="r"/>`} {
		checkFault(t, open(t, full+s+`</group>`), "", 59, api.ErrFull)
	}
	// The last of 100 is a use that leads to what it lies in, or to itself.
	nearly := strings.TrimSuffix(full, "<poly/>")
	checkFault(t, open(t, nearly+`<use of="r"/></group>`), "", 0, api.ErrCycle)
	checkFault(t, open(t, nearly+`<use id="u" of="u"/></group>`), "", 58, api.ErrCycle)
	checkFault(t, open(t, nearly+`<use of="x"/></group>`), "", 1, api.ErrFull)
	checkFault(t, open(t, nearly+`<use of="y"/><poly/></group>`), "", 58, api.ErrValue)
}

// P1: groups that use the next one twice would be come to without end, nearly; the count ends it.
func TestDoubled(t *testing.T) {
	var s strings.Builder
	ids := "abcdefghijklmnopqrstuvwxyz"
	for i := range len(ids) - 1 {
		next := `<use of="` + ids[i+1:i+2] + `"/>`
		s.WriteString(`<group id="` + ids[i:i+1] + `">` + next + next + `</group>`)
	}
	d := open(t, `<group>`+s.String()+`<poly id="z"/></group>`)
	l, err := Pieces(d, nil)
	if len(l) > 0 || !errors.Is(err, api.ErrFull) {
		t.Error(l, err)
	}
}
