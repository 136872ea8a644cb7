package given

import (
	"bytes"
	"go/ast"
	"go/format"
	"go/parser"
	"go/token"
	"io/fs"
	"os"
	"path/filepath"
	"strconv"
	"strings"
	"testing"
)

const library = " bytes cmp container/heap errors iter maps math math/bits slices sort strconv strings sync sync/atomic unicode unicode/utf8 "

const longest = 60 // lines of a function

// sources of the program: not its tests, nor those that are laid beside it.
func sources(t *testing.T) []string {
	var l []string
	err := filepath.WalkDir("..", func(path string, d fs.DirEntry, err error) error {
		if err != nil {
			return err
		}
		name := d.Name()
		if d.IsDir() && (name == "sharedtests" || name == "testdata" || len(name) > 2 && name[0] == '.') {
			return fs.SkipDir
		}
		if strings.HasSuffix(name, ".go") && !strings.HasSuffix(name, "_test.go") {
			l = append(l, path)
		}
		return nil
	})
	if err != nil || len(l) < 15 {
		t.Fatal(l, err)
	}
	return l
}

// The rules of the language that a text shows: imports, layout, lines to the builder, the length of functions.
func TestLanguage(t *testing.T) {
	for _, path := range sources(t) {
		text, err := os.ReadFile(path)
		if err != nil {
			t.Fatal(err)
		}
		if laid, err := format.Source(text); err != nil || !bytes.Equal(laid, text) {
			t.Error(path, "is not in gofmt's layout", err)
		}
		if bytes.Contains(text, []byte("//go:")) || bytes.Contains(text, []byte("// +build")) {
			t.Error(path, "has a line to the builder")
		}
		set := token.NewFileSet()
		file, err := parser.ParseFile(set, path, text, 0)
		if err != nil {
			t.Fatal(err)
		}
		for _, i := range file.Imports {
			name, err := strconv.Unquote(i.Path.Value)
			if err != nil || !strings.HasPrefix(name, "leadlight/") && !strings.Contains(library, " "+name+" ") {
				t.Error(path, "imports", name, err)
			}
		}
		for _, d := range file.Decls {
			f, ok := d.(*ast.FuncDecl)
			if ok && set.Position(f.End()).Line-set.Position(f.Pos()).Line >= longest {
				t.Error(path, f.Name.Name, "is too long")
			}
		}
	}
}
