package live

import (
	"slices"

	"leadlight/paint"
	"leadlight/scene"
)

// changedRows of a picture so high: where other pieces reach than did, or the same ones in another order.
func changedRows(was, is []scene.Piece, high int) []int {
	var rows []int
	for y := range high {
		if !slices.EqualFunc(reaching(was, y), reaching(is, y), looksAs) {
			rows = append(rows, y)
		}
	}
	return rows
}

func reaching(l []scene.Piece, y int) []scene.Piece {
	return slices.DeleteFunc(slices.Clone(l), func(s scene.Piece) bool { return !paint.Reaches(s, y) })
}

// looksAs: the element of a piece, and its level, do not show but by its place in the list.
func looksAs(a, b scene.Piece) bool {
	return a.Fill == b.Fill && a.Rule == b.Rule && slices.Equal(a.Shape.Points, b.Shape.Points)
}

// paintedAnew: a picture with these rows of it by other pieces.
func paintedAnew(p paint.Picture, pieces []scene.Piece, rows []int) (paint.Picture, error) {
	if err := paint.Check(pieces); err != nil {
		return paint.Picture{}, err // also where no row would ask
	}
	p.Cells = slices.Clone(p.Cells)
	for _, y := range rows {
		row, err := paint.Row(pieces, p.W, y)
		if err != nil {
			return paint.Picture{}, err
		}
		copy(p.Cells[y*p.W:], row)
	}
	return p, nil
}
