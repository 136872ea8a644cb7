package paint

import (
	"math"
	"math/big"
	"math/rand/v2"
	"testing"

	"leadlight/api"
	"leadlight/frac"
	"leadlight/scene"
	"leadlight/shape"
)

// P92: from the least Y to the greatest, both with them; X, Fill and Rule make no difference.
func TestReaches(t *testing.T) {
	for _, c := range []struct {
		points      string
		first, last int // rows that are reached, none where the last one is ahead
	}{
		{"", 0, -1}, {"0,0", 0, -1}, {"0,1/2", 0, 0}, {"5,-1/2", -1, -1}, {"5,-3/2 1,-3/2", -2, -2}, {"0,0 1,1", 0, 0}, {"0,0 1,0 1,3 0,3", 0, 2}, {"0,3 0,0", 0, 2}, {"1,1/2 1,5/2", 0, 2}, {"1,9/20 1,51/20", 0, 2}, {"1,11/20 1,49/20", 1, 1}, {"1,11/20 1,29/20", 0, -1},
		{"0,4 0,6 0,5 0,-2 0,1", -2, 5}, {"0,-1000 0,1000", -1000, 999}, {"0,1000", 0, -1}, {"0,-1/3 0,1/3", 0, -1}, {"0,-2/3 0,2/3", -1, 0}, {"1000,7 -1000,9", 7, 8},
	} {
		for _, s := range []scene.Piece{{Shape: shapeOf(t, c.points)}, {Shape: shapeOf(t, c.points), Fill: "none", Rule: "what", Level: 5}} {
			for y := -1003; y < 1003; y++ {
				if is := Reaches(s, y); is != (y >= c.first && y <= c.last) {
					t.Error(c, y, is)
				}
			}
		}
	}
}

// P92: a point that is not right, by X or by Y, wherever it stands; one that is too great for a shape is right, and so are more than MaxPoints.
func TestReachesRight(t *testing.T) {
	low, high := at(whole(0), whole(-5)), at(whole(0), whole(5))
	for _, a := range []api.Frac{{}, f(2, 4), f(0, 3), f(1, -1), f(-1, -1), f(1, 0), f(1, math.MinInt), f(math.MinInt, 1), f(api.MaxPart+1, 1), f(-api.MaxPart-1, 1), f(1, api.MaxPart+1), f(math.MaxInt, 1)} {
		for _, p := range []api.Point{at(a, whole(0)), at(whole(0), a), at(a, a)} {
			for _, l := range [][]api.Point{{p}, {p, low, high}, {low, p, high}, {low, high, p}} {
				for _, y := range []int{0, -1, 4, math.MaxInt, math.MinInt} {
					if Reaches(byPoints(l...), y) {
						t.Error(l, y)
					}
				}
			}
		}
	}
	for _, p := range []api.Point{at(f(1, 21), whole(0)), at(whole(1001), whole(0)), at(whole(0), f(1, api.MaxPart)), at(whole(0), whole(2000))} {
		if !Reaches(byPoints(low, p, high), 0) || !Reaches(byPoints(low, p), -1) {
			t.Error(p)
		}
	}
	many := make([]api.Point, 0, 100)
	for range 98 {
		many = append(many, low)
	}
	if !Reaches(byPoints(append(many, high)...), 4) || Reaches(byPoints(many...), 4) || Reaches(byPoints(append(many, high, api.Point{})...), 4) {
		t.Error("many")
	}
	// What stands behind the length is not read.
	if Reaches(byPoints([]api.Point{low, high}[:1]...), 0) || !Reaches(byPoints([]api.Point{low, high, {}}[:2]...), 0) {
		t.Error("behind")
	}
}

// exactReaches says P92's words in numbers without a bound.
func exactReaches(s scene.Piece, y int) bool {
	var least, most *big.Rat
	for _, p := range s.Shape.Points {
		if frac.Check(p.X) != nil || frac.Check(p.Y) != nil {
			return false
		}
		r := big.NewRat(int64(p.Y.Num), int64(p.Y.Den))
		if least == nil || r.Cmp(least) < 0 {
			least = r
		}
		if most == nil || r.Cmp(most) > 0 {
			most = r
		}
	}
	row := new(big.Rat).Add(new(big.Rat).SetInt64(int64(y)), big.NewRat(1, 2))
	return least != nil && least.Cmp(row) <= 0 && most.Cmp(row) >= 0
}

// P92, P1: rows of any size, and the utmost fractions, against numbers without a bound.
func TestReachesUtmost(t *testing.T) {
	const m = api.MaxPart
	var rows []int
	for _, y := range []int{0, m / 2, -m / 2, m, -m, 1 << 31, -1 << 31, 1 << 32, 1 << 61, -1 << 61, 1 << 62, -1 << 62} {
		rows = append(rows, y-2, y-1, y, y+1, y+2)
	}
	rows = append(rows, math.MaxInt, math.MaxInt-1, math.MinInt, math.MinInt+1)
	parts := []api.Frac{whole(0), whole(m), whole(-m), whole(m - 1), whole(1 - m), f(m-1, 2), f(1-m, 2), f(1, m), f(-1, m), f(m-1, m), f(m, m-1), f(-m, m-1), f(m/2+1, m), f(m/2-1, m), f(1, 2), f(-1, 2)}
	reached := 0
	for _, a := range parts {
		for _, b := range parts {
			s := byPoints(at(b, a), at(a, b))
			for _, y := range rows {
				is := Reaches(s, y)
				if is != exactReaches(s, y) {
					t.Fatal(s, y, is)
				}
				if is {
					reached++
				}
			}
		}
	}
	if reached < 500 {
		t.Error("too few:", reached)
	}
}

// P92: a piece shows in no row that it does not reach: neither in the cells of one, nor in any other point at its centres' Y.
func TestShowsWhereItReaches(t *testing.T) {
	r := some{rand.New(rand.NewPCG(9, 92))}
	shows, misses := 0, 0
	for range 3000 {
		s := r.piece()
		for y := range api.MaxSide {
			reaches := Reaches(s, y)
			if reaches != exactReaches(s, y) {
				t.Fatal(s, y, reaches)
			}
			if !reaches {
				misses++
			}
			if !holdsInRow(t, s.Shape, s.Rule, y) {
				continue
			}
			shows++
			if !reaches {
				t.Fatal(s, y, "shows")
			}
		}
	}
	if shows < 3000 || misses < 3000 {
		t.Error("too few:", shows, misses)
	}
}

func holdsInRow(t *testing.T, s shape.Shape, rule string, y int) bool {
	for x := -5; x < api.MaxSide+5; x++ {
		is, err := s.Holds(at(f(2*x+1, 2), f(2*y+1, 2)), rule)
		if err != nil {
			t.Fatal(s, err)
		}
		if is {
			return true
		}
	}
	return false
}
