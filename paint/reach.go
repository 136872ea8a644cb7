package paint

import (
	"leadlight/api"
	"leadlight/frac"
	"leadlight/scene"
)

// Reaches a piece a row? The least Y is at most the centres', if any one is, and likewise the greatest: so none is looked for.
func Reaches(s scene.Piece, y int) bool {
	if y < -api.MaxPart || y >= api.MaxPart {
		return false // no right fraction is so great
	}
	over, under := false, false
	for _, p := range s.Shape.Points {
		if frac.Check(p.X) != nil || frac.Check(p.Y) != nil {
			return false
		}
		down := downFrom(y, p.Y)
		over = over || down <= 0
		under = under || down >= 0
	}
	return over && under
}

// downFrom the centres of row y to a, times both Dens: a right fraction may be too great to be taken off another one, but int64 holds this, which is at most 2 to the 62nd in size.
func downFrom(y int, a api.Frac) int64 {
	return 2*int64(a.Num) - (2*int64(y)+1)*int64(a.Den)
}
