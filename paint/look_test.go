package paint

import (
	"math"
	"slices"
	"strings"
	"testing"
)

func cellsOf(s string) []string { return strings.Split(s, ",") }

// P91: the first byte of each cell, whatever it is; `?` only where there is none.
func TestText(t *testing.T) {
	for _, c := range []struct {
		w, h  int
		cells string
		want  string
	}{
		{1, 1, ".", ".\n"}, {1, 1, "", "?\n"}, {2, 1, "ab,ba", "ab\n"}, {1, 2, "ab,ba", "a\nb\n"}, {2, 2, "a,,.,box", "a?\n.b\n"}, {3, 2, "a,b,c,d,e,f", "abc\ndef\n"}, {2, 3, "a,b,c,d,e,f", "ab\ncd\nef\n"},
		{2, 1, "?,?a", "??\n"}, {2, 1, "\n,\na", "\n\n\n"}, {1, 1, "é", "\xc3\n"}, {2, 1, "\xff\xfe,\x00", "\xff\x00\n"}, {2, 1, " , a", "  \n"},
	} {
		p := Picture{W: c.w, H: c.h, Cells: cellsOf(c.cells)}
		if s := p.Text(); s != c.want {
			t.Errorf("%v: %q, want %q", p, s, c.want)
		}
	}
}

// P91: names rising by their bytes, each once, with how many cells show it.
func TestCount(t *testing.T) {
	for _, c := range []struct {
		cells, names string
		many         []int
	}{
		{".", ".", []int{1}}, {"", "", []int{1}}, {"a,b,a", "a,b", []int{2, 1}}, {"b,a,b,b", "a,b", []int{1, 3}}, {"ab,a,b,,.,a,", ",.,a,ab,b", []int{2, 1, 2, 1, 1}}, {"z,Z,é,0,-,10,9", "-,0,10,9,Z,z,é", []int{1, 1, 1, 1, 1, 1, 1}}, {"a,a ,A,a", "A,a,a ", []int{1, 2, 1}},
	} {
		names, many := Picture{W: len(cellsOf(c.cells)), H: 1, Cells: cellsOf(c.cells)}.Count()
		if !slices.Equal(names, cellsOf(c.names)) || !slices.Equal(many, c.many) {
			t.Errorf("%q: %q %v", c.cells, names, many)
		}
	}
	p, err := Paint(pieces(t, "bb wind 0,0 3,0 3,2 0,2", "a wind 1,1 9,1 9,9 1,9", "c wind 0,0 4,0 4,2 0,2", "bb even 0,0 1,0 1,1 0,1", " wind 3,3 4,3 4,4 3,4"), 5, 5)
	names, many := p.Count()
	if !slices.Equal(names, []string{"", ".", "a", "bb", "c"}) || !slices.Equal(many, []int{1, 4, 12, 1, 7}) || err != nil {
		t.Errorf("%q %v %v\n%s", names, many, err, p.Text())
	}
	if names, many = (Picture{}).Count(); len(names) > 0 || len(many) > 0 {
		t.Error(names, many)
	}
}

// P91: the sides and every cell are the same, whole, or two are not.
func TestSame(t *testing.T) {
	a := Picture{W: 3, H: 2, Cells: cellsOf("a,b,c,d,e,f")}
	for _, b := range []Picture{
		{}, {W: 2, H: 3, Cells: a.Cells}, {W: 3, H: 3, Cells: a.Cells}, {W: 4, H: 2, Cells: a.Cells}, {W: 3, H: 2}, {W: 3, H: 2, Cells: a.Cells[:5]}, {W: 3, H: 2, Cells: cellsOf("a,b,c,d,e,f,")},
		{W: 3, H: 2, Cells: cellsOf("a,b,c,d,e,ff")}, {W: 3, H: 2, Cells: cellsOf(",b,c,d,e,f")}, {W: 3, H: 2, Cells: cellsOf("b,a,c,d,e,f")}, {W: 3, H: 2, Cells: cellsOf("a,b,c,D,e,f")},
	} {
		if Same(a, b) || Same(b, a) || !Same(b, b) {
			t.Error(b)
		}
	}
	if !Same(a, a) || !Same(a, Picture{W: 3, H: 2, Cells: slices.Clone(a.Cells)}) || !Same(Picture{}, Picture{Cells: []string{}}) || !Same(Picture{Cells: make([]string, 0, 9)}, Picture{}) {
		t.Error("not the same")
	}
	x, _ := Paint(pieces(t, "?a wind 0,0 1,0 1,1 0,1"), 2, 1)
	y, _ := Paint(pieces(t, " wind 0,0 1,0 1,1 0,1"), 2, 1)
	if x.Text() != y.Text() || Same(x, y) {
		t.Error(x, y)
	}
}

// P1: pictures that no call gave: sides that are none of the list's, however great, and no list.
func TestAnyPicture(t *testing.T) {
	sides := []int{math.MinInt, math.MinInt + 1, -40, -1, 0, 1, 2, 3, 5, 40, 41, 1 << 31, 1 << 32, math.MaxInt - 1, math.MaxInt}
	lists := [][]string{nil, {}, {"a"}, {"", "bb"}, {"a", "b", "", "."}, make([]string, 1601)}
	for _, w := range sides {
		for _, h := range sides {
			for _, l := range lists {
				p := Picture{W: w, H: h, Cells: l}
				s := p.Text()
				if len(s) > 2*len(l) || !Same(p, p) || w < 1 && s != "" || h < 1 && s != "" {
					t.Errorf("%d %d %q: %q", w, h, l, s)
				}
				names, many := p.Count()
				sum := 0
				for _, n := range many {
					sum += n
				}
				if len(names) != len(many) || sum != len(l) {
					t.Error(w, h, l, names, many)
				}
			}
		}
	}
	for _, c := range []struct {
		p    Picture
		want string
	}{
		{Picture{}, ""}, {Picture{W: 2, H: 2}, ""}, {Picture{W: 2, H: 1, Cells: cellsOf("a,b,c")}, "ab\n"}, {Picture{W: 2, H: 2, Cells: cellsOf("a,b,c")}, "ab\nc\n"}, {Picture{W: 2, H: 9, Cells: cellsOf("a,b,c,d")}, "ab\ncd\n"}, {Picture{W: 9, H: 1, Cells: cellsOf("a,b")}, "ab\n"},
	} {
		if s := c.p.Text(); s != c.want {
			t.Errorf("%v: %q", c.p, s)
		}
	}
	// What stands behind the length is not read.
	long := cellsOf("a,b,c,d")
	p := Picture{W: 2, H: 2, Cells: long[:2]}
	if names, _ := p.Count(); p.Text() != "ab\n" || !slices.Equal(names, long[:2]) || Same(p, Picture{W: 2, H: 2, Cells: long}) {
		t.Error(p.Text(), names)
	}
}
