package scene

import (
	"errors"
	"math/rand/v2"
	"reflect"
	"slices"
	"sync"
	"testing"

	"leadlight/api"
	"leadlight/doc"
	"leadlight/plain"
	"leadlight/style"
)

// below an element, itself first.
func below(d *doc.Doc, n int) []int {
	l := []int{n}
	for _, kid := range d.Kids(n) {
		l = append(l, below(d, kid)...)
	}
	return l
}

// hide an element, and take the ids off it and all below: no use leads there.
func hide(t *testing.T, d *doc.Doc, n int) {
	for _, m := range below(d, n) {
		_ = d.Unset(m, "id") // there may be none
	}
	if err := d.Set(n, "show", "no"); err != nil {
		t.Fatal(err)
	}
}

// spoil an element and all below, in every way that an element can be not well.
func (s some) spoil(t *testing.T, d *doc.Doc, n int) {
	for _, m := range below(d, n) {
		for _, a := range []api.Attr{{Name: "move", Value: "what"}, {Name: "x", Value: "2147483648"}, {Name: "points", Value: "y"}, {Name: "of", Value: "i0"}, {Name: "fill", Value: "spoiled"}, {Name: "level", Value: "5"}} {
			_ = d.Set(m, a.Name, a.Value) // there may be MaxAttrs others
		}
		for _, name := range []string{"use", "box", "group"} {
			if k, err := d.Add(m, 0, name); err == nil && d.Set(k, "of", "i0") != nil {
				t.Fatal(k)
			}
		}
	}
}

// sameAnswer as another one, errors and all.
func sameAnswer(a, b []Piece, err1, err2 error) bool {
	code1, at1 := plain.Code(err1)
	code2, at2 := plain.Code(err2)
	return told(a) == told(b) && code1 == code2 && at1 == at2
}

// P82: what is not shown may be as it likes, or be taken off: the answer stays, an error too. (It is counted, so taking it off may mend ErrFull.)
func TestNotShown(t *testing.T) {
	r := some{Rand: rand.New(rand.NewPCG(8, 82))}
	shown, wrong := 0, 0
	for i := range 2000 {
		r.wrongIn = []int{0, 100}[i%2]
		d, l := r.document(t, 3+r.IntN(40), i%4 == 0), r.sheet(t)
		all := d.All()
		n := all[r.IntN(len(all))]
		hide(t, d, n)
		a, err1 := Pieces(d, l)
		r.spoil(t, d, n)
		if b, err2 := Pieces(d, l); !sameAnswer(a, b, err1, err2) {
			t.Fatal("spoiled", n, told(a), err1, "and", told(b), err2)
		}
		code, _ := plain.Code(err1)
		if len(a) > 0 {
			shown++
		}
		if code > 0 {
			wrong++
		}
		if n == 0 || errors.Is(err1, api.ErrFull) {
			continue
		}
		if err := d.Remove(n); err != nil {
			t.Fatal(err)
		}
		if b, err2 := Pieces(d, l); !sameAnswer(a, b, err1, err2) {
			t.Fatal("taken off", n, told(a), err1, "and", told(b), err2)
		}
	}
	if shown < 500 || wrong < 100 {
		t.Error("too few:", shown, wrong)
	}
}

// P4, P2: the document and the sheet are only read; what is written into an answer shows nowhere else, nor does a later change of the sheet.
func TestOnlyRead(t *testing.T) {
	text := `<group fill="a"><poly id="p" points="1,1 2,2 3,3"/><use of="p"/><box w="2"/><use of="p" move="turn 1"/></group>`
	d, long := open(t, text), sheet(t, "poly { level: 2 }\nbox { level: 1 }\n* { fill: b }\n")
	l := long[:2]
	node, rules := d.Node(), slices.Clone(long)
	a, err := Pieces(d, l)
	want := told(a)
	if err != nil || want != "3 a wind 1 0,0 2,0 2,0 0,0;1 a wind 2 1,1 2,2 3,3;1 a wind 2 1,1 2,2 3,3;1 a wind 2 -1,1 -2,2 -3,3" {
		t.Fatal(want, err)
	}
	if !reflect.DeepEqual(d.Node(), node) || !slices.Equal(long, rules) {
		t.Error("changed:", d.Node(), long)
	}
	for i := range a {
		rest := told(a[i+1:])
		for k := range a[i].Shape.Points {
			a[i].Shape.Points[k] = api.Point{}
		}
		_ = append(a[i].Shape.Points, api.Point{}, api.Point{}, api.Point{})
		if s := told(a[i+1:]); s != rest {
			t.Error(i, s, "want", rest)
		}
	}
	clear(a)
	b, err := Pieces(d, l)
	if s := told(b); s != want || err != nil {
		t.Error(s, err)
	}
	clear(long)
	if s := told(b); s != want {
		t.Error(s)
	}
}

// P2: the same again, behind other calls, and side by side with them.
func TestSame(t *testing.T) {
	r := some{Rand: rand.New(rand.NewPCG(8, 2)), wrongIn: 200}
	type task struct {
		d    *doc.Doc
		l    []style.Rule
		want []Piece
		err  error
	}
	var tasks []task
	for range 40 {
		k := task{d: r.document(t, 3+r.IntN(30), false), l: r.sheet(t)}
		k.want, k.err = Pieces(k.d, k.l)
		tasks = append(tasks, k)
	}
	var wait sync.WaitGroup
	for range 8 {
		wait.Go(func() {
			for _, k := range tasks {
				if l, err := Pieces(k.d, k.l); !sameAnswer(l, k.want, err, k.err) {
					t.Error(told(l), err, "want", told(k.want), k.err)
				}
			}
		})
	}
	wait.Wait()
}
