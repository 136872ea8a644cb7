package script

import (
	"slices"
	"strconv"
	"strings"
	"testing"

	"leadlight/api"
)

// told: lines, each with its answer.
type told [][2]string

func (l told) lines() []string {
	var lines []string
	for _, c := range l {
		lines = append(lines, c[0])
	}
	return lines
}

func (l told) try(t *testing.T) {
	t.Helper()
	got, err := Run(l.lines())
	if err != nil || len(got) != len(l) {
		t.Fatal(got, err)
	}
	for i, c := range l {
		if got[i] != c[1] {
			t.Errorf("%d %q: %q, not %q", i, c[0], got[i], c[1])
		}
	}
}

// Texts of errors, as package api has them.
const (
	badText  = "leadlight: text"
	badBound = "leadlight: bound"
	badShape = "leadlight: shape"
	badName  = "leadlight: name"
	badNone  = "leadlight: none"
	badExist = "leadlight: exist"
	badFull  = "leadlight: full"
	badDeep  = "leadlight: deep"
	badCycle = "leadlight: cycle"
	badValue = "leadlight: value"
)

// P130: what a script begins with.
func TestBegin(t *testing.T) {
	told{
		{"text", "<group/>"},
		{"show", strings.Repeat("........;", 6)},
		{"count", ".:48"},
		{"pieces", "nothing"},
		{"find *", "0"},
		{"style 0 fill", "none"}, {"style 0 show", "yes"}, {"style 0 rule", "wind"}, {"style 0 level", "0"},
		{"add 0 0 x", "1"},
	}.try(t)
}

// P130: a new picture, with numbers from 0 on again, and the same sheet and size.
func TestOpen(t *testing.T) {
	told{
		{"sheet box { fill: a }", "nothing"},
		{"add 0 0 x", "1"}, {"add 0 0 x", "2"},
		{`open <group><box w="3" h="2"></box><b k="&lt; &amp;"/></group>`, "ok"},
		{"text", `<group><box w="3" h="2"/><b k="&lt; &amp;"/></group>`},
		{"show", "aaa.....;aaa.....;........;........;........;........;"},
		{"pieces", "1:a"},
		{"add 0 2 x", "3"},
		{"open <box/>", "ok"}, {"text", "<box/>"}, {"add 0 0 x", "1"}, {"style 0 fill", "a"}, {"style 1 fill", "a"},
		{"sheet", "nothing"}, {`open <box w="90" h="90"/>`, "ok"}, {"count", ".:48"}, {"pieces", "nothing"},
		{`open <box w="90" h="90" fill="full"/>`, "ok"}, {"count", "full:48"}, {"show", strings.Repeat("ffffffff;", 6)},
	}.try(t)
}

// P130, P131: errors of mark.Read and of a new picture; what there was stays, with its numbers.
func TestOpenWrong(t *testing.T) {
	deep, full := strings.Repeat("<a>", 10)+"<b/>"+strings.Repeat("</a>", 10), "<a>"+strings.Repeat("<b/>", 100)+"</a>"
	l := told{{`open <group><box w="2" h="1" fill="a"/></group>`, "ok"}, {"add 0 0 x", "2"}}
	for _, c := range [][2]string{
		{"", badText}, {" ", badText}, {"<a", badText}, {" <a/>", badText}, {"<a/> ", badText}, {"<a/><a/>", badText}, {"<a></b>", badText}, {"<a k=\"&x;\"/>", badText}, {"<a/>\n", badText}, {strings.Repeat("<", api.MaxText), badText}, {strings.Repeat("<", api.MaxText+1), badBound},
		{"<A/>", badName}, {"<a><b><C/></b></a>", badName}, {"<a K=\"\"/>", badName}, {"<" + strings.Repeat("a", 13) + "/>", badName}, {`<a k="" k=""/>`, badExist}, {"<a k=\"\n\"/>", badValue}, {`<a k="` + strings.Repeat("v", 201) + `"/>`, badValue}, {deep, badDeep}, {full, badFull},
		{"<use/>", badValue}, {`<group><box/><use of="p"/></group>`, badValue}, {`<box move="turn"/>`, badValue}, {`<box x="1/0"/>`, badValue}, {`<box w="1073741825"/>`, badBound}, {`<box x="1073741824" w="1"/>`, badBound}, {`<group id="p"><use of="p"/></group>`, badCycle}, {`<box rule="what" fill="a"/>`, badValue},
	} {
		l = append(l, [2]string{"open " + c[0], c[1]}, [2]string{"text", `<group><x/><box w="2" h="1" fill="a"/></group>`})
	}
	append(l, told{{"show", "aa......;" + strings.Repeat("........;", 5)}, {"add 0 0 y", "3"}, {`open <box rule="what"/>`, "ok"}}...).try(t)
}

// P130: a sheet's lines, with `; ` for each line break, and one behind.
func TestSheet(t *testing.T) {
	told{
		{`open <group><box w="2" h="1"/><box id="q" y="2" w="1" h="2"/><poly points="4,0 8,0 8,6" class="k l"/></group>`, "ok"},
		{"sheet box { fill: a }", "0 2 3"},
		{"sheet box { fill: a }; #q { fill: b }", "2 3"},
		{"sheet box { fill: a }; #q { fill: b }; group > .k { fill: c }", "0 1 2 3 4 5"},
		{"show", "aa..cccc;.....ccc;b.....cc;b.....cc;.......c;........;"},
		{"sheet box { fill: a }; #q { fill: b }; group > .k { fill: c }; * { level: 0 }", "nothing"},
		{"sheet box { fill: a };#q { fill: b }", badText},
		{"sheet box { fill: a }; ", badText},
		{"sheet ; box { fill: a }", badText},
		{"sheet  box { fill: a }", badText},
		{"sheet box { fill: a } ", badText},
		{"sheet box { fill: a};", badText},
		{"sheet box { fill: a }\n", badText},
		{"sheet  ", badText},
		{"sheet what", badText},
		{"sheet " + strings.Repeat("x", api.MaxText), badBound},
		{"sheet * { fill: d }; * { rule: what }", badValue},
		{"style 1 fill", "a"}, {"style 2 fill", "b"}, {"style 3 fill", "c"}, {"style 0 fill", "none"},
		{"pieces", "1:a 2:b 3:c"},
		{"sheet box { fill: a }; #q { show: no }", "0 1 2 3 4 5"},
		{"pieces", "1:a"},
		{"sheet ", "0"},
		{"pieces", "nothing"},
		{"sheet", "nothing"},
		{"style 1 fill", "none"},
	}.try(t)
}

// P130: the most rules, and the longest text: counted with line breaks, and the one behind.
func TestSheetMost(t *testing.T) {
	rules := func(many int) string { return strings.TrimSuffix(strings.Repeat("box { fill: a }; ", many), "; ") }
	long := func(many int) string { return strings.Repeat("x", many) }
	told{
		{"sheet " + rules(api.MaxRules+1), badFull}, {"style 0 fill", "none"},
		{"sheet " + rules(api.MaxRules), "nothing"},
		{"sheet " + long(api.MaxText-1), badText}, {"sheet " + long(api.MaxText), badBound},
		{"sheet " + long(api.MaxText-2) + "; ", badText}, {"sheet " + long(api.MaxText-1) + "; ", badBound},
		{"add 0 0 box", "1"}, {"style 1 fill", "a"},
	}.try(t)
}

// P130: the new number: one more than the greatest there ever was.
func TestAdd(t *testing.T) {
	told{
		{"add 0 0 a", "1"}, {"add 0 0 b", "2"}, {"add 0 1 c", "3"}, {"add 0 3 d", "4"}, {"add 3 0 e", "5"}, {"add 3 1 a-1", "6"},
		{"text", "<group><b/><c><e/><a-1/></c><a/><d/></group>"},
		{"remove 3", "nothing"}, {"add 0 1 c", "7"}, {"add 7 0 " + strings.Repeat("a", 12), "8"},
		{"add 3 0 a", badNone}, {"add 9 0 a", badNone}, {"add 9999999 0 a", badNone}, {"add 0 5 a", badBound}, {"add 0 9999999 a", badBound}, {"add 0 5 A", badBound}, {"add 9 5 A", badNone},
		{"add 0 0 A", badName}, {"add 0 0 1a", badName}, {"add 0 0 " + strings.Repeat("a", 13), badName}, {"add 0 0 a\n", badName}, {"add 0 0 <", badName}, {"add 0 0 ", badName},
		{"add 0 0 use", badValue}, {"add 0 0 box", "9"},
		{"text", "<group><box/><b/><c><aaaaaaaaaaaa/></c><a/><d/></group>"},
	}.try(t)
	var l told
	for i := range 9 {
		l = append(l, [2]string{"add " + strconv.Itoa(i) + " 0 a", strconv.Itoa(i + 1)})
	}
	append(l, [2]string{"add 9 0 a", badDeep}, [2]string{"add 8 0 a", "10"}).try(t)
	told{
		{"open <a>" + strings.Repeat("<b/>", api.MaxNodes-1) + "</a>", "ok"}, {"add 0 0 c", badFull}, {"remove 1", "nothing"}, {"add 0 0 c", "100"}, {"add 0 0 c", badFull},
	}.try(t)
}

// P130: the changes, and the rows that they paint anew.
func TestChanges(t *testing.T) {
	told{
		{`open <group fill="a"><box w="2" h="2"/><group><box x="3" y="1" w="2" h="3"/></group></group>`, "ok"},
		{"show", "aa......;aa.aa...;...aa...;...aa...;........;........;"},
		{"move 3 0 0", "1"}, {"move 3 2 0", "1"}, {"move 1 2 1", "1"}, {"move 1 2 1", "nothing"},
		{"text", `<group fill="a"><group><box x="3" y="1" w="2" h="3"/><box w="2" h="2"/></group></group>`},
		{"set 2 move move 0 1", "0 1 2 3 4"},
		{"show", "........;aa......;aa.aa...;...aa...;...aa...;........;"},
		{"set 2 fill b", "1 2 3 4"}, {"set 2 fill b", "nothing"}, {"set 2 fill none", "1 2 3 4"}, {"unset 2 fill", "1 2 3 4"},
		{"unset 2 move", "0 1 2 3 4"},
		{"set 3 level 1", "1"}, {"set 3 x 1", "1 2 3"},
		{"show", "aa......;aaa.....;.aa.....;.aa.....;........;........;"},
		{"remove 1", "0 1"}, {"remove 2", "1 2 3"}, {"remove 2", badNone},
		{"text", `<group fill="a"/>`},
	}.try(t)
}

// P130: VALUE is all behind the blank.
func TestSetValue(t *testing.T) {
	told{
		{"set 0 a b", "nothing"}, {"set 0 b  b", "nothing"}, {"set 0 c ", "nothing"}, {"set 0 d  ", "nothing"}, {"set 0 e a  b c ", "nothing"}, {`set 0 f <">&`, "nothing"}, {"set 0 g ; ", "nothing"},
		{"text", `<group a="b" b=" b" c="" d=" " e="a  b c " f="&lt;&quot;&gt;&amp;" g="; "/>`},
		{"set 0 a " + strings.Repeat("v", 200), "nothing"}, {"set 0 a " + strings.Repeat("v", 201), badValue}, {"set 0 a \n", badValue}, {"set 0 a é", badValue}, {"set 0 a\tb c", badName},
		{"set 0 A b", badName}, {"set 1 A b", badNone}, {"set 0  b", badName},
		{"set 0 a b", "nothing"}, {"unset 0 b", "nothing"}, {"unset 0 b", badNone}, {"unset 0 B", badNone}, {"unset 0 ", badNone}, {"unset 1 a", badNone},
		{"text", `<group a="b" c="" d=" " e="a  b c " f="&lt;&quot;&gt;&amp;" g="; "/>`},
	}.try(t)
}

// P131: the errors of changes; nothing changes.
func TestChangesWrong(t *testing.T) {
	const whole = `<group><box id="p" w="1" h="1" fill="a"/><group id="g"><use of="p"/></group></group>`
	l := told{{"open " + whole, "ok"}}
	for _, c := range [][2]string{
		{"remove 0", badShape}, {"remove 4", badNone}, {"remove 9999999", badNone}, {"remove 1", badValue},
		{"move 0 1 0", badShape}, {"move 4 0 0", badNone}, {"move 1 4 0", badNone}, {"move 2 2 0", badCycle}, {"move 2 3 0", badCycle}, {"move 1 0 2", badBound}, {"move 1 2 2", badBound},
		{"set 4 a b", badNone}, {"set 1 move turn 5", badValue}, {"set 1 x 1/0", badValue}, {"set 3 of q", badValue}, {"set 3 of g", badCycle}, {"set 1 id q", badValue}, {"set 1 x 1073741824", badBound}, {"set 1 rule what", badValue},
		{"unset 1 id", badValue}, {"unset 3 of", badValue}, {"unset 3 k", badNone}, {"add 0 0 use", badValue},
	} {
		l = append(l, c, [2]string{"text", whole})
	}
	append(l, told{{"show", "a.......;" + strings.Repeat("........;", 5)}, {"add 0 0 x", "4"}}...).try(t)
}

// P130: what is told of the picture and its document.
func TestTells(t *testing.T) {
	told{
		{`open <group><box w="8" h="1" fill="wall"/><group id="g" fill=""><box y="1" w="2" h="1" level="1"/><box y="1" w="3" h="1" class="k"/></group><box y="5" w="1" h="1" fill=";"/><use of="g" move="move 0 1"/></group>`, "ok"},
		{"show", "wwwwwwww;???.....;???.....;........;........;;.......;"},
		{"count", ":6 .:33 ;:1 wall:8"},
		{"pieces", "1:wall 4: 5:; 4: 3: 3:"},
		{"find box", "1 3 4 5"}, {"find group > box.k", "4"}, {"find #g *", "3 4"}, {"find group group", "2"}, {"find use use", "nothing"}, {"find  box", badText}, {"find box ", badText}, {"find ", badText}, {"find", badText}, {"find BOX", badText}, {"find box > > box", badText},
		{"style 1 fill", "wall"}, {"style 3 fill", "nothing"}, {"style 3 level", "1"}, {"style 4 level", "0"}, {"style 0 fill", "none"}, {"style 0 class", "nothing"}, {"style 4 class", "nothing"}, {"style 7 fill", "nothing"}, {"style 0 ", "nothing"}, {"style 0 FILL", "nothing"},
		{"set 1 fill nothing", "0"}, {"style 1 fill", "nothing"},
	}.try(t)
}

// P130, P131: a document whose text would be too long is told by its error alone.
func TestTextTooLong(t *testing.T) {
	l := told{{"open <a>" + strings.Repeat("<b/>", 60) + "</a>", "ok"}}
	for n := range 60 {
		l = append(l, [2]string{"set " + strconv.Itoa(n) + " k " + strings.Repeat("v", 200), "nothing"})
	}
	append(l, told{{"text", badBound}, {"find [k] > b", strings.TrimSuffix(numbersTo(60), " ")}}...).try(t)
}

// numbersTo the greatest, from 1 on, each with a blank behind.
func numbersTo(greatest int) string {
	var s strings.Builder
	for n := 1; n <= greatest; n++ {
		s.WriteString(strconv.Itoa(n) + " ")
	}
	return s.String()
}

// P130: the most lines, and one more.
func TestMostLines(t *testing.T) {
	lines := slices.Repeat([]string{"add 0 0 a"}, api.MaxLines)
	got, err := Run(lines)
	if err != nil || len(got) != api.MaxLines || got[0] != "1" || got[98] != "99" || got[99] != badFull {
		t.Error(got, err)
	}
	for _, many := range []int{1, 2, 1000, 1 << 20} {
		if got, err := Run(make([]string, api.MaxLines+many)); len(got) > 0 || err != api.ErrBound {
			t.Error(many, got, err)
		}
	}
	if got, err := Run(nil); len(got) > 0 || err != nil {
		t.Error(got, err)
	}
	if got, err := Run([]string{}); len(got) > 0 || err != nil {
		t.Error(got, err)
	}
	if got, err := Run(lines[:1]); !slices.Equal(got, []string{"1"}) || err != nil {
		t.Error(got, err)
	}
}
