package play

import (
	"math/rand/v2"
	"slices"
	"strconv"
	"strings"
	"sync"
	"testing"

	"leadlight/api"
	"leadlight/doc"
	"leadlight/live"
	"leadlight/mark"
	"leadlight/plain"
)

// model of a play: its node alone. Behind each number a new picture is painted of it, from the beginning.
type model struct{ node mark.Node }

// edited: a new document, whose numbers are the places of doc.All, with what v tells done to it.
func (m model) edited(v int) (mark.Node, error) {
	d, err := doc.New(m.node)
	if err != nil {
		return mark.Node{}, err
	}
	q := v >> 3
	n := q % d.Count()
	values := map[int][2]string{
		0: {strings.Fields("x y w h")[q&3], strings.Fields("0 1/2 1 3/2 2 5/2 3 7/2 4 9/2 5 11/2")[(q>>2)%12]},
		2: {"fill", string(rune('a' + q&3))},
		3: {"move", "move " + strings.Fields("0 1 2 3 4")[q%5] + " " + strings.Fields("0 1 2 3 4")[q%25/5]},
		6: {"show", strings.Fields("yes no")[q&1]},
		7: {"level", strconv.Itoa(q & 3)},
	}
	values[1] = values[0]
	if a, ok := values[v&7]; ok {
		err = d.Set(n, a[0], a[1])
	} else if v&7 == 4 {
		_, err = d.Add(n, 0, "box")
	} else {
		err = d.Remove(n)
	}
	return d.Node(), err
}

func (m *model) answer(v int) int {
	if v < 0 {
		return -1
	}
	node, err := m.edited(v)
	if err == nil {
		_, err = live.New(node, sheet, wide, high)
	}
	if err == nil {
		m.node = node
	}
	code, _ := plain.Code(err)
	return code
}

func (m model) sum(t testing.TB) string {
	l, err := live.New(m.node, sheet, wide, high)
	if err != nil {
		t.Fatal(err)
	}
	return text(l) + "\n" + l.Picture().Text()
}

// some numbers of a script, few of them below 0; of each hundred that many more that add.
func some(r *rand.Rand, many, more int) []int {
	var l []int
	for range many {
		v := r.IntN(4000)
		switch r.IntN(20) {
		case 0:
			v = -1 - v
		case 1:
			v = int(r.Uint64() >> 1)
		}
		if v >= 0 && r.IntN(100) < more {
			v = v&^7 + 4
		}
		l = append(l, v)
	}
	return l
}

// P110, P111: many plays, answer by answer and sum by sum, against the model.
func TestRunModel(t *testing.T) {
	r := rand.New(rand.NewPCG(11, 110))
	seen := map[int]int{}
	for i := range 60 {
		l, m := begin(t), &model{node: begin(t).Node()}
		script := some(r, 100, i%4*20)
		for deep := i % 3 * 5; deep > 0; deep-- { // boxes in boxes, ahead of all else
			script = slices.Insert(script, 0, 8*deep+4)
		}
		for k, v := range script {
			want := m.answer(v)
			if got := Run(l, []int{v}); !slices.Equal(got, []int{want}) || Sum(l) != m.sum(t) {
				t.Fatal(i, k, v, got, "want", want, Sum(l), "want", m.sum(t))
			}
			seen[want]++
			if want == 0 {
				seen[100+v%8]++
			}
		}
	}
	for _, n := range []int{-1, 3, 8, 10, 100, 101, 102, 103, 104, 105, 106, 107} {
		if seen[n] < 10 {
			t.Error("too few:", n, seen)
		}
	}
}

// P110: whole scripts, also ones that are too long, as number by number; parted in two they make the same.
func TestRunWhole(t *testing.T) {
	r := rand.New(rand.NewPCG(11, 300))
	for i := range 12 {
		script := some(r, api.MaxEdits+i-6, 15)
		a, b, m := begin(t), begin(t), &model{node: begin(t).Node()}
		var want []int
		for _, v := range script[:min(len(script), api.MaxEdits)] {
			want = append(want, m.answer(v))
		}
		got := Run(a, script)
		part := r.IntN(api.MaxEdits - 6)
		parts := append(Run(b, script[:part]), Run(b, script[part:min(len(script), api.MaxEdits)])...)
		if !slices.Equal(got, want) || !slices.Equal(parts, want) || Sum(a) != m.sum(t) || Sum(b) != Sum(a) {
			t.Fatal(i, got, parts, "want", want)
		}
	}
}

// P111: the document's text as it is, a line break, the rows.
func TestSum(t *testing.T) {
	l := begin(t)
	if s := Sum(l); s != first+"\n"+firstRows {
		t.Error(s)
	}
	if _, err := l.Do(live.Edit{Kind: "set", N: 2, Name: "fill", Value: `<"long"&>`}); err != nil {
		t.Fatal(err)
	}
	want := strings.Replace(first, `"p"`, `"&lt;&quot;long&quot;&amp;&gt;"`, 1) + "\n" + strings.ReplaceAll(firstRows, "p", "<")
	if s := Sum(l); s != want || Sum(l) != s || l.Picture().Cells[0] != `<"long"&>` {
		t.Error(s, "want", want)
	}
}

// P111: of a picture with other sides, and without a piece.
func TestSumOther(t *testing.T) {
	for _, c := range []struct {
		name string
		w, h int
		want string
	}{{"group", 1, 1, "<group/>\n.\n"}, {"other", 3, 2, "<other/>\n...\n...\n"}} {
		l, err := live.New(mark.Node{Name: c.name}, "", c.w, c.h)
		if err != nil || Sum(l) != c.want {
			t.Error(c.name, err, Sum(l))
		}
	}
}

// P111: a text of MaxText bytes is told; of a longer one, which is an error, nothing, but the rows still are.
func TestSumTooLong(t *testing.T) {
	l := begin(t)
	value := strings.Repeat("v", api.MaxValue)
	for len(text(l)) < api.MaxText-300 {
		before := l.Doc().All()
		if got := Run(l, []int{4}); got[0] != 0 {
			t.Fatal(got)
		}
		n := l.Doc().Kids(0)[0]
		if _, err := l.Do(live.Edit{Kind: "set", N: n, Name: "data", Value: value}); err != nil || slices.Contains(before, n) {
			t.Fatal(n, err)
		}
	}
	fill := func(many int) {
		for n := 1; n <= 2; n++ {
			part := min(many, api.MaxValue)
			many -= part
			if _, err := l.Do(live.Edit{Kind: "set", N: n, Name: "data", Value: value[:part]}); err != nil {
				t.Fatal(err)
			}
		}
	}
	fill(0)
	rest := api.MaxText - len(text(l))
	fill(rest)
	if s := Sum(l); len(text(l)) != api.MaxText || s != text(l)+"\n"+firstRows {
		t.Error(rest, len(text(l)), s)
	}
	fill(rest + 1)
	if s := Sum(l); s != "\n"+firstRows {
		t.Error(rest, s)
	}
}

// played: all that a play tells.
func played(t testing.TB, script []int) string {
	l := begin(t)
	var b strings.Builder
	for _, v := range Run(l, script) {
		b.WriteString(strconv.Itoa(v) + " ")
	}
	return b.String() + Sum(l)
}

// P112, P2: the same script makes the same play, behind other plays, and side by side with them.
func TestSame(t *testing.T) {
	r := rand.New(rand.NewPCG(11, 112))
	var scripts [][]int
	var want []string
	for i := range 16 {
		scripts = append(scripts, some(r, 10*i, 20))
		want = append(want, played(t, scripts[i]))
	}
	var wait sync.WaitGroup
	for range 6 {
		wait.Go(func() {
			for i, script := range scripts {
				if got := played(t, script); got != want[i] {
					t.Error(i, got, "want", want[i])
				}
			}
		})
	}
	wait.Wait()
}
