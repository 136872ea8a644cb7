package live

import (
	"leadlight/api"
	"leadlight/doc"
	"leadlight/style"
)

// sheetKind of an edit: the one that leaves the document as it is.
const sheetKind = "sheet"

// Edit of a picture.
type Edit struct {
	Kind        string
	N, M, At    int
	Name, Value string
}

// Apply an edit.
func Apply(d *doc.Doc, e Edit) error {
	if d == nil {
		return api.ErrShape
	}
	switch e.Kind {
	case "add":
		_, err := d.Add(e.N, e.At, e.Name)
		return err
	case "remove":
		return d.Remove(e.N)
	case "move":
		return d.Move(e.N, e.M, e.At)
	case "set":
		return d.Set(e.N, e.Name, e.Value)
	case "unset":
		return d.Unset(e.N, e.Name)
	case sheetKind:
		return nil
	}
	return api.ErrName
}

// rulesBehind an edit: those that there are, unless it is a sheet.
func rulesBehind(rules []style.Rule, e Edit) ([]style.Rule, error) {
	if e.Kind != sheetKind {
		return rules, nil
	}
	return style.Read(e.Value)
}
