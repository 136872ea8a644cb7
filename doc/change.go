package doc

import (
	"slices"

	"leadlight/api"
	"leadlight/mark"
)

// Add an element.
func (d *Doc) Add(parent, at int, name string) (int, error) {
	p, ok := d.elements[parent]
	switch {
	case !ok:
		return 0, api.ErrNone
	case at < 0 || at > len(p.kids):
		return 0, api.ErrBound
	case !mark.IsName(name):
		return 0, api.ErrName
	case d.deep(parent) >= api.MaxDeep:
		return 0, api.ErrDeep
	case d.Count() >= api.MaxNodes:
		return 0, api.ErrFull
	}
	n := d.keep(&element{name: name, parent: parent})
	p.kids = slices.Insert(p.kids, at, n)
	return n, nil
}

// deep tells how deep an element lies: the root at 1.
func (d *Doc) deep(n int) int {
	deep := 0
	for e := d.elements[n]; e != nil; e = d.elements[e.parent] {
		deep++
	}
	return deep
}

// Remove an element, with all below.
func (d *Doc) Remove(n int) error {
	_, ok := d.elements[n]
	switch {
	case !ok:
		return api.ErrNone
	case n == root:
		return api.ErrShape
	}
	d.takeOut(n)
	for _, m := range d.from(n) {
		delete(d.elements, m)
	}
	return nil
}

// takeOut an element of its parent's children.
func (d *Doc) takeOut(n int) {
	p := d.elements[d.elements[n].parent]
	p.kids = slices.DeleteFunc(p.kids, func(kid int) bool { return kid == n })
}

// Move an element.
func (d *Doc) Move(n, parent, at int) error {
	e, isIn := d.elements[n]
	p, parentIsIn := d.elements[parent]
	switch {
	case !isIn || !parentIsIn:
		return api.ErrNone
	case n == root:
		return api.ErrShape
	case slices.Contains(d.from(n), parent):
		return api.ErrCycle
	case at < 0 || at > d.others(parent, n):
		return api.ErrBound
	case d.deep(parent)+d.levels(n) > api.MaxDeep:
		return api.ErrDeep
	}
	d.takeOut(n)
	e.parent = parent
	p.kids = slices.Insert(p.kids, at, n)
	return nil
}

// others than n: how many children an element has without it.
func (d *Doc) others(parent, n int) int {
	count := len(d.elements[parent].kids)
	if d.elements[n].parent == parent {
		count--
	}
	return count
}

// levels of an element and all below: 1, if there is nothing below.
func (d *Doc) levels(n int) int {
	most := 0
	d.walk(n, 1, func(_, deep int) { most = max(most, deep) })
	return most
}

// Set an attribute.
func (d *Doc) Set(n int, name, value string) error {
	e, ok := d.elements[n]
	switch {
	case !ok:
		return api.ErrNone
	case !mark.IsName(name):
		return api.ErrName
	case !mark.IsValue(value):
		return api.ErrValue
	}
	if i := e.placeOf(name); i >= 0 {
		e.attrs[i].Value = value
		return nil
	}
	if len(e.attrs) >= api.MaxAttrs {
		return api.ErrFull
	}
	e.attrs = append(e.attrs, api.Attr{Name: name, Value: value})
	return nil
}

// Unset an attribute.
func (d *Doc) Unset(n int, name string) error {
	e, ok := d.elements[n]
	if !ok {
		return api.ErrNone
	}
	i := e.placeOf(name)
	if i < 0 {
		return api.ErrNone
	}
	e.attrs = slices.Delete(e.attrs, i, i+1)
	return nil
}
