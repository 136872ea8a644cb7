package given

import (
	"leadlight/api"
	"leadlight/doc"
	"leadlight/frac"
	"leadlight/live"
	"leadlight/mark"
	"leadlight/move"
	"leadlight/paint"
	"leadlight/pick"
	"leadlight/play"
	"leadlight/scene"
	"leadlight/script"
	"leadlight/shape"
	"leadlight/side"
	"leadlight/style"
)

// The faces stay as they are given: these lines are built only with their names and signatures.
var (
	_ func(api.Frac) error                          = frac.Check
	_ func(int, int) (api.Frac, error)              = frac.Make
	_ func(api.Frac) string                         = frac.Text
	_ func(string) (api.Frac, error)                = frac.Read
	_ func(api.Frac, api.Frac) (api.Frac, error)    = frac.Add
	_ func(api.Frac, api.Frac) (api.Frac, error)    = frac.Sub
	_ func(api.Frac, api.Frac) (api.Frac, error)    = frac.Mul
	_ func(api.Frac, api.Frac) (api.Frac, error)    = frac.Div
	_ func(api.Frac, api.Frac) (int, error)         = frac.Cmp
	_ func() move.Move                              = move.One
	_ func(move.Move) error                         = move.Move.Check
	_ func(move.Move, api.Point) (api.Point, error) = move.Move.At
	_ func(move.Move, move.Move) (move.Move, error) = move.Then
	_ func(move.Move) (move.Move, error)            = move.Move.Back
	_ func(string) (move.Move, error)               = move.Read
	_ func(mark.Node) error                         = mark.Check
	_ func(mark.Node) (string, error)               = mark.Text
	_ func(string) (mark.Node, error)               = mark.Read
)

var (
	_ func(mark.Node) (*doc.Doc, error)                = doc.New
	_ func(*doc.Doc) mark.Node                         = (*doc.Doc).Node
	_ func(*doc.Doc) int                               = (*doc.Doc).Count
	_ func(*doc.Doc, int) string                       = (*doc.Doc).Name
	_ func(*doc.Doc, int, string) (string, bool)       = (*doc.Doc).Attr
	_ func(*doc.Doc, int) int                          = (*doc.Doc).Parent
	_ func(*doc.Doc, int) []int                        = (*doc.Doc).Kids
	_ func(*doc.Doc) []int                             = (*doc.Doc).All
	_ func(*doc.Doc, int, int, string) (int, error)    = (*doc.Doc).Add
	_ func(*doc.Doc, int) error                        = (*doc.Doc).Remove
	_ func(*doc.Doc, int, int, int) error              = (*doc.Doc).Move
	_ func(*doc.Doc, int, string, string) error        = (*doc.Doc).Set
	_ func(*doc.Doc, int, string) error                = (*doc.Doc).Unset
	_ func(string) (pick.Selector, error)              = pick.Read
	_ func(pick.Selector) string                       = pick.Selector.Text
	_ func(pick.Selector) int                          = pick.Selector.Weight
	_ func(pick.Selector, *doc.Doc, int) bool          = pick.Selector.Fits
	_ func(*doc.Doc, pick.Selector) []int              = pick.All
	_ func(string) ([]style.Rule, error)               = style.Read
	_ func(*doc.Doc, []style.Rule, int, string) string = style.Of
)

var (
	_ func(shape.Shape) error                                           = shape.Shape.Check
	_ func(string) (shape.Shape, error)                                 = shape.Read
	_ func(api.Frac, api.Frac, api.Frac, api.Frac) (shape.Shape, error) = shape.Box
	_ func(shape.Shape, move.Move) (shape.Shape, error)                 = shape.Shape.Move
	_ func(shape.Shape, api.Point) (int, error)                         = shape.Shape.Wind
	_ func(shape.Shape, api.Point) (int, error)                         = shape.Shape.Cross
	_ func(shape.Shape, api.Point, string) (bool, error)                = shape.Shape.Holds
	_ func(*doc.Doc, []style.Rule) ([]scene.Piece, error)               = scene.Pieces
	_ func([]scene.Piece, int, int) ([]string, error)                   = paint.Row
	_ func([]scene.Piece, int, int) (paint.Picture, error)              = paint.Paint
	_ func(paint.Picture) string                                        = paint.Picture.Text
	_ func(paint.Picture) ([]string, []int)                             = paint.Picture.Count
	_ func(paint.Picture, paint.Picture) bool                           = paint.Same
	_ func(scene.Piece, int) bool                                       = paint.Reaches
)

var (
	_ func(*doc.Doc, live.Edit) error                           = live.Apply
	_ func(mark.Node, string, int, int) (*live.Live, error)     = live.New
	_ func(*live.Live, live.Edit) ([]int, error)                = (*live.Live).Do
	_ func(*live.Live) paint.Picture                            = (*live.Live).Picture
	_ func(*live.Live) mark.Node                                = (*live.Live).Node
	_ func(*live.Live) *doc.Doc                                 = (*live.Live).Doc
	_ func() (*live.Live, error)                                = play.New
	_ func(*live.Live, []int) []int                             = play.Run
	_ func(*live.Live) string                                   = play.Sum
	_ func([]scene.Piece, int, int, int) (paint.Picture, error) = side.Rows
	_ func([][]int, int) ([]string, error)                      = side.Plays
	_ func([]string) ([]string, error)                          = script.Run
)

// Structs that the document spells out have just those fields: else the conversions are not built.
var (
	_ = struct{ Num, Den int }(api.Frac{})
	_ = struct{ A, B, C, D, E, F api.Frac }(move.Move{})
	_ = struct {
		Name  string
		Attrs []api.Attr
		Kids  []mark.Node
	}(mark.Node{})
	_ = struct {
		Where       pick.Selector
		Name, Value string
	}(style.Rule{})
	_ = struct{ Points []api.Point }(shape.Shape{})
	_ = struct {
		Node       int
		Shape      shape.Shape
		Fill, Rule string
		Level      int
	}(scene.Piece{})
	_ = struct {
		W, H  int
		Cells []string
	}(paint.Picture{})
	_ = struct {
		Kind        string
		N, M, At    int
		Name, Value string
	}(live.Edit{})
)
