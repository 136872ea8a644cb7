package scene

import (
	"errors"
	"slices"

	"leadlight/api"
	"leadlight/doc"
	"leadlight/move"
	"leadlight/shape"
)

// nowhere is the node of what the root lies in: no element has it.
const nowhere = -1

// walk through a document, from the root on.
type walk struct {
	doc    *doc.Doc
	style  func(n int, name string) string
	count  int // of all that were come to, as often as they were
	pieces []Piece
}

// place that the walk is at: an element, and by pointer what it lies in there. An element may have many of them, as uses lead to it.
type place struct {
	node int
	in   *place
	move move.Move // the element's, then those of all that it lies in
}

// within tells whether a place is an element's, or lies in one that is.
func (p *place) within(n int) bool {
	for ; p != nil; p = p.in {
		if p.node == n {
			return true
		}
	}
	return false
}

// comeTo an element. It is counted ahead of being asked whether it is shown, as the errors are told in that order.
func (w *walk) comeTo(n int, in *place) error {
	switch {
	case in.within(n):
		return &api.Fault{At: n, Err: api.ErrCycle}
	case w.count >= api.MaxNodes:
		return &api.Fault{At: n, Err: api.ErrFull}
	}
	w.count++
	show := w.wayOf(w.doc.Name(n))
	if show == nil || w.style(n, "show") == "no" {
		return nil
	}
	m, err := w.moveOf(n, in)
	if err != nil {
		return faultOf(n, err)
	}
	return show(&place{node: n, in: in, move: m})
}

// wayOf an element to be shown, by its name; nil: it shows nothing.
func (w *walk) wayOf(name string) func(p *place) error {
	switch name {
	case "box":
		return w.byShape(w.boxOf)
	case "poly":
		return w.byShape(w.polyOf)
	case "group":
		return w.showGroup
	case "use":
		return w.showUse
	}
	return nil
}

func (w *walk) showGroup(p *place) error {
	for _, kid := range w.doc.Kids(p.node) {
		if err := w.comeTo(kid, p); err != nil {
			return err
		}
	}
	return nil
}

func (w *walk) showUse(p *place) error {
	n, ok := w.ledTo(p.node)
	if !ok {
		return &api.Fault{At: p.node, Err: api.ErrValue}
	}
	return w.comeTo(n, p)
}

// byShape is the way of an element that has one. A piece without a fill is left out only when all of it has been asked for errors.
func (w *walk) byShape(read func(n int) (shape.Shape, error)) func(p *place) error {
	return func(p *place) error {
		s, err := read(p.node)
		if err != nil {
			return faultOf(p.node, err)
		}
		if s, err = s.Move(p.move); err != nil {
			return faultOf(p.node, err)
		}
		if fill := w.style(p.node, "fill"); fill != "none" {
			w.pieces = append(w.pieces, Piece{Node: p.node, Shape: s, Fill: fill, Rule: w.style(p.node, "rule"), Level: readLevel(w.style(p.node, "level"))})
		}
		return nil
	}
}

// ledTo by a use: the first element whose id is that of the use. Without `of` there is no id to look for, not even an empty one.
func (w *walk) ledTo(use int) (int, bool) {
	of, ok := w.doc.Attr(use, "of")
	if !ok {
		return 0, false
	}
	all := w.doc.All()
	i := slices.IndexFunc(all, func(n int) bool {
		id, ok := w.doc.Attr(n, "id")
		return ok && id == of
	})
	if i < 0 {
		return 0, false
	}
	return all[i], true
}

// faultOf an element, by what a package below told of it; the place that is told there is none of the scene's.
func faultOf(n int, err error) error {
	if errors.Is(err, api.ErrBound) {
		return &api.Fault{At: n, Err: api.ErrBound}
	}
	return &api.Fault{At: n, Err: api.ErrValue}
}
