package paint

import (
	"math"
	"testing"

	"leadlight/api"
	"leadlight/scene"
	"leadlight/shape"
)

// checkFault asks Paint and Row, at all rows' edges, for nothing but a place and the very error (-1: bare).
func checkFault(t *testing.T, l []scene.Piece, at int, want error) {
	t.Helper()
	p, err := Paint(l, 3, 2)
	if p.W != 0 || p.H != 0 || len(p.Cells) > 0 || !isFault(err, at, want) {
		t.Errorf("Paint: %v %#v, want %v at %d", p, err, want, at)
	}
	if err := Check(l); !isFault(err, at, want) {
		t.Errorf("Check: %#v, want %v at %d", err, want, at)
	}
	for _, y := range []int{0, 1, api.MaxSide - 1} {
		if row, err := Row(l, 3, y); len(row) > 0 || !isFault(err, at, want) {
			t.Errorf("Row %d: %v %#v, want %v at %d", y, row, err, want, at)
		}
	}
}

func isFault(err error, at int, want error) bool {
	f, ok := err.(*api.Fault)
	return ok && f.At == at && f.Err == want
}

func byPoints(points ...api.Point) scene.Piece {
	return scene.Piece{Shape: shape.Shape{Points: points}, Fill: "a", Rule: "wind"}
}

func at(x, y api.Frac) api.Point { return api.Point{X: x, Y: y} }

// wrongShapes with their errors, whatever place the shape told.
func wrongShapes() []struct {
	s   scene.Piece
	err error
} {
	return []struct {
		s   scene.Piece
		err error
	}{
		{byPoints(api.Point{}), api.ErrShape}, {byPoints(at(whole(0), whole(0)), at(whole(1), f(2, 4))), api.ErrShape}, {byPoints(at(f(0, 2), whole(0))), api.ErrShape}, {byPoints(at(whole(0), f(1, -1))), api.ErrShape}, {byPoints(at(f(1, math.MinInt), whole(0))), api.ErrShape},
		{byPoints(at(whole(api.MaxPart+1), whole(0))), api.ErrBound}, {byPoints(at(whole(0), f(1, math.MaxInt))), api.ErrBound}, {byPoints(at(whole(0), whole(0)), at(whole(1001), whole(0))), api.ErrBound}, {byPoints(at(whole(0), whole(-1001))), api.ErrBound}, {byPoints(at(f(1, 21), whole(0))), api.ErrBound},
		{byPoints(at(whole(1001), whole(0)), at(f(2, 4), whole(0))), api.ErrShape}, {byPoints(make([]api.Point, api.MaxPoints+1)...), api.ErrBound},
	}
}

func wrongRules() []string {
	return []string{"", "what", "Wind", "wind ", " even", "none", "odd", "windeven", "wind\x00"}
}

// P90: sides from 1 to MaxSide, rows from 0 to MaxSide - 1; told bare, and ahead of what is wrong in the pieces.
func TestSides(t *testing.T) {
	bad := []scene.Piece{{Rule: "what"}}
	for _, l := range [][]scene.Piece{nil, bad, {wrongShapes()[0].s}} {
		for _, n := range []int{0, -1, api.MaxSide + 1, 1 << 40, math.MaxInt, math.MinInt, math.MinInt + 1} {
			for _, side := range [][2]int{{n, 1}, {1, n}, {n, n}, {n, 40}, {40, n}, {n, 0}} {
				if p, err := Paint(l, side[0], side[1]); p.W != 0 || p.H != 0 || len(p.Cells) > 0 || err != api.ErrBound {
					t.Error(side, p, err)
				}
			}
			for _, y := range []int{0, 39, 40, -1, math.MaxInt} {
				if row, err := Row(l, n, y); len(row) > 0 || err != api.ErrBound {
					t.Error(n, y, row, err)
				}
			}
		}
		for _, y := range []int{-1, api.MaxSide, api.MaxSide + 1, math.MaxInt, math.MinInt} {
			if row, err := Row(l, 1, y); len(row) > 0 || err != api.ErrBound {
				t.Error(y, row, err)
			}
		}
	}
	for _, n := range []int{1, 2, 39, api.MaxSide} {
		for _, side := range [][2]int{{n, 1}, {1, n}, {n, n}, {n, 40}} {
			if p, err := Paint(nil, side[0], side[1]); p.W != side[0] || p.H != side[1] || len(p.Cells) != side[0]*side[1] || err != nil {
				t.Error(side, p, err)
			}
		}
	}
}

// P90: the error of a shape, with the piece's place and not the point's; behind pieces that are well, and where the piece would show nowhere.
func TestFaultShape(t *testing.T) {
	well := pieces(t, "a wind 0,0 9,0 9,9 0,9", "b even ", "c wind 0,0")
	for _, c := range wrongShapes() {
		checkFault(t, []scene.Piece{c.s}, 0, c.err)
		checkFault(t, append(well[:2:2], c.s), 2, c.err)
		checkFault(t, []scene.Piece{well[0], c.s, well[1], well[2]}, 1, c.err)
		c.s.Fill = ""
		checkFault(t, append(well[:3:3], c.s), 3, c.err)
	}
}

// P90: the rule of each piece, also of one without points, or that reaches no row, or that is hidden.
func TestFaultRule(t *testing.T) {
	for _, rule := range wrongRules() {
		for _, points := range []string{"", "0,0", "0,0 2,0 0,2", "50,50 60,50 60,60", "0,-9 2,-9 0,-8"} {
			s := scene.Piece{Shape: shapeOf(t, points), Fill: "a", Rule: rule}
			checkFault(t, []scene.Piece{s}, 0, api.ErrValue)
			checkFault(t, append(pieces(t, "a wind 0,0", "b even "), s), 2, api.ErrValue)
			checkFault(t, append([]scene.Piece{s}, pieces(t, "a wind -9,-9 9,-9 9,9 -9,9")...), 0, api.ErrValue)
		}
	}
	checkFault(t, make([]scene.Piece, 5), 0, api.ErrValue)
}

// P90, P3: the first piece that is not well is told, and of it the shape ahead of the rule.
func TestFaultOrder(t *testing.T) {
	rule := scene.Piece{Rule: "what"}
	for _, c := range wrongShapes() {
		both := c.s
		both.Rule = "what"
		checkFault(t, []scene.Piece{both}, 0, c.err)
		checkFault(t, []scene.Piece{rule, both}, 0, api.ErrValue)
		checkFault(t, []scene.Piece{rule, c.s}, 0, api.ErrValue)
		checkFault(t, []scene.Piece{c.s, rule}, 0, c.err)
		checkFault(t, append(pieces(t, "a even 0,0"), rule, c.s), 1, api.ErrValue)
		for _, d := range wrongShapes() {
			checkFault(t, append(pieces(t, "a even 0,0"), d.s, c.s), 1, d.err)
		}
	}
	// What stands behind the length is not read.
	long := append(pieces(t, "a wind 0,0 1,0 1,1 0,1"), rule)
	checkText(t, long[:1], "a.")
}
