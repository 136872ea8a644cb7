package scene

import (
	"leadlight/api"
	"leadlight/frac"
	"leadlight/move"
	"leadlight/shape"
)

// moveOf an element: its own, and then that of what it lies in.
func (w *walk) moveOf(n int, in *place) (move.Move, error) {
	text, _ := w.doc.Attr(n, "move") // none: the empty text, which is One
	m, err := move.Read(text)
	if err != nil {
		return move.Move{}, err
	}
	return move.Then(m, in.move)
}

func (w *walk) boxOf(n int) (shape.Shape, error) {
	var sides [4]api.Frac
	for i, name := range [4]string{"x", "y", "w", "h"} {
		side, err := w.fracOf(n, name)
		if err != nil {
			return shape.Shape{}, err
		}
		sides[i] = side
	}
	return shape.Box(sides[0], sides[1], sides[2], sides[3])
}

// fracOf an attribute. An empty text is no fraction, so 0 stands only where there is no attribute.
func (w *walk) fracOf(n int, name string) (api.Frac, error) {
	text, ok := w.doc.Attr(n, name)
	if !ok {
		return api.Frac{Num: 0, Den: 1}, nil
	}
	return frac.Read(text)
}

func (w *walk) polyOf(n int) (shape.Shape, error) {
	text, _ := w.doc.Attr(n, "points") // none: the empty text, which has no points
	return shape.Read(text)
}
