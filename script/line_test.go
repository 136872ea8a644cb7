package script

import (
	"math"
	"strconv"
	"strings"
	"testing"
)

// P130: digits, at most seven, without needless zeros.
func TestNumbers(t *testing.T) {
	for _, n := range []int{0, 1, 9, 10, 100, 1234567, 9999999} {
		if got, ok := readNumber(strconv.Itoa(n)); got != n || !ok {
			t.Error(n, got, ok)
		}
	}
	wrong := strings.Fields("00 01 000 0000000 00000000 -0 -1 +0 +1 1. 1.0 1e1 0x1 1_0 x 1x x1 ٣ 1/1 10000000 99999999 00000001 9223372036854775808 18446744073709551616 ' \" \x00 1\x00 \xff")
	for _, s := range append(wrong, "", " ", " 1", "1\n", "\t1", strconv.Itoa(math.MaxInt), strconv.Itoa(math.MinInt), strings.Repeat("0", 1000), strings.Repeat("1", 100000)) {
		if got, ok := readNumber(s); got != 0 || ok {
			t.Errorf("%q %d %v", s, got, ok)
		}
		for _, line := range []string{"remove " + s, "add " + s + " 0 a", "add 0 " + s + " a", "move " + s + " 0 0", "move 1 " + s + " 0", "move 1 0 " + s, "set " + s + " a b", "unset " + s + " a", "style " + s + " fill"} {
			if got, err := Run([]string{line}); err != nil || len(got) != 1 || got[0] != badText {
				t.Errorf("%q %q %v", line, got, err)
			}
		}
	}
}

// P131: lines that are none, between lines that are: they change nothing, and the script goes on.
func TestWrongLines(t *testing.T) {
	for _, line := range []string{
		"", " ", "  ", "\n", "\x00", "\xff\xfe", "what", "what x", "ok", "nothing", "Show", "SHOW", "shows", "sho", "show\n", "show\t", " show", "show ", "show  ", "show x", "show 0", "show;", "text ", "text x", " text", "count ", "count x", "pieces ", "pieces 0",
		"open", "open\t<a/>", "Open <a/>", "open<a/>", " open <a/>", "open  <a/>", "sheets", "Sheet", "sheet\n", " sheet", "sheet\t", "find", "find\t*", "Find *",
		"add", "add ", "add 0", "add 0 ", "add 0 0", "add  0 0 a", "add 0  0 a", "add 0 0 a ", "add 0 0  a", "add 0 0 a b", "add 0 0 0 a", "add 0 a", "add a 0 0", "add 0 0\ta", "add 0 0 A ", "ADD 0 0 a", "add0 0 a",
		"remove", "remove ", "remove  0", "remove 0 ", "remove 0 0", "remove x", "remove 1 x", "remove1",
		"move", "move ", "move 1", "move 1 0", "move 1 0 ", "move 1 0 0 ", "move 1 0 0 0", "move  1 0 0", "move 1  0 0", "move 1 0  0", "move 1 0 x",
		"set", "set ", "set 0", "set 0 ", "set 0 a", "set  0 a b", "set a b c", "set x", "set 0\ta b",
		"unset", "unset ", "unset 0", "unset 0 k ", "unset 0  k", "unset  0 k", "unset 0 k k", "unset k", "unset k 0",
		"style", "style ", "style 0", "style 0 fill ", "style 0  fill", "style  0 fill", "style 0 fill fill", "style fill", "style fill 0",
		strings.Repeat("a", 1<<20), strings.Repeat(" ", 1<<20), strings.Repeat("add ", 1<<18),
	} {
		told{
			{`open <group k="1"><box w="1" h="1" fill="a"/></group>`, "ok"},
			{line, badText}, {line, badText},
			{"text", `<group k="1"><box w="1" h="1" fill="a"/></group>`}, {"show", "a.......;" + strings.Repeat("........;", 5)}, {"add 1 0 b", "2"},
		}.try(t)
	}
}

// P1, P131: each command with parts that are none of its own, of all lengths: an answer for each line, and none is empty.
func TestOddParts(t *testing.T) {
	words := strings.Fields("open sheet add remove move set unset show text find style pieces count what")
	odd := []string{"", "0", "1", "9999999", "00", "-1", "a", "A", "fill", "<a/>", "*", ">", "* { fill: a }", "; ", "\n", "\x00", "\xff", "é", strings.Repeat("x", 20000)}
	for _, word := range words {
		for _, a := range odd {
			var lines []string
			for _, b := range odd {
				lines = append(lines, word+" "+a, word+" "+a+" "+b, word+" "+a+" 0 "+b, word+" 0 "+a+" "+b, word+" 0 "+b+" "+a+" "+b)
			}
			got, err := Run(lines)
			if err != nil || len(got) != len(lines) {
				t.Fatal(word, a, got, err)
			}
			for i := range got {
				if got[i] == "" {
					t.Errorf("%q", lines[i])
				}
			}
		}
	}
}
