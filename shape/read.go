package shape

import (
	"strings"

	"leadlight/api"
	"leadlight/frac"
)

// Read a shape. The whole text is read ahead of Check, because an error of the text is told ahead of Check's.
func Read(s string) (Shape, error) {
	if s == "" {
		return Shape{}, nil
	}
	var points []api.Point
	for _, word := range strings.Split(s, " ") {
		p, ok := readPoint(word)
		if !ok {
			return Shape{}, api.ErrText
		}
		points = append(points, p)
	}
	return checked(points)
}

// readPoint does not tell frac.Read's errors apart: what it does not read is no text of a point.
func readPoint(word string) (api.Point, bool) {
	left, right, parted := strings.Cut(word, ",")
	x, errX := frac.Read(left)
	y, errY := frac.Read(right)
	if !parted || errX != nil || errY != nil {
		return api.Point{}, false
	}
	return api.Point{X: x, Y: y}, true
}
