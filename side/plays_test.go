package side

import (
	"math"
	"math/rand/v2"
	"reflect"
	"slices"
	"strings"
	"sync"
	"testing"

	"leadlight/api"
	"leadlight/play"
)

// alone: a script played without workers.
func alone(t testing.TB, script []int) string {
	t.Helper()
	l, err := play.New()
	if err != nil {
		t.Fatal(err)
	}
	play.Run(l, script)
	return play.Sum(l)
}

func allAlone(t testing.TB, scripts [][]int) []string {
	t.Helper()
	var l []string
	for _, script := range scripts {
		l = append(l, alone(t, script))
	}
	return l
}

// someScripts of very different lengths, so that workers end in another order than they began.
func someScripts(r *rand.Rand, many, most int) [][]int {
	scripts := make([][]int, many)
	for i := range scripts {
		for range r.IntN(1 + r.IntN(most+1)) {
			scripts[i] = append(scripts[i], r.IntN(4000)-100)
		}
	}
	return scripts
}

// checkPlays by each number of workers.
func checkPlays(t *testing.T, scripts [][]int) {
	t.Helper()
	want := allAlone(t, scripts)
	for workers := 1; workers <= api.Workers; workers++ {
		if got, err := Plays(scripts, workers); !slices.Equal(got, want) || err != nil {
			t.Fatal(workers, got, err, "want", want)
		}
	}
}

// P120: sums by hand: of the picture as it begins, and of one in which the box is b, and nothing else.
func TestPlays(t *testing.T) {
	const first = `<group id="g"><box id="a" x="1" y="1" w="4" h="3" fill="a"/><poly points="0,0 8,0 4,7" fill="p"/><use of="a" move="move 3 3"/></group>`
	const rows = "pppppppp....\n.pppppp.....\n.pppppp.....\n.apppp......\n...paaaa....\n...paaaa....\n....aaaa....\n............\n............\n"
	begun := first + "\n" + rows
	changed := strings.Replace(first, `fill="a"`, `fill="b"`, 1) + "\n" + strings.ReplaceAll(rows, "a", "b")
	for workers := 1; workers <= api.Workers; workers++ {
		got, err := Plays([][]int{{10}, nil, {-1, 10, -10}, {}, {5}}, workers)
		if !slices.Equal(got, []string{changed, begun, changed, begun, begun}) || err != nil {
			t.Error(workers, got, err)
		}
	}
}

// P120, P121: many scripts, from none to 100 of them, against each played alone.
func TestPlaysAsAlone(t *testing.T) {
	r := rand.New(rand.NewPCG(12, 121))
	for _, many := range []int{0, 1, 2, 3, 15, 16, 17, 40, 99, 100} {
		checkPlays(t, someScripts(r, many, 12))
	}
	checkPlays(t, nil)
	checkPlays(t, someScripts(r, 6, 120))
}

// P120: each is a new picture, also where scripts are the same, and no play goes on where another one ended.
func TestPlaysNewEach(t *testing.T) {
	script := []int{8*0 + 4, 8*1 + 2, 8*3 + 5, 8*9 + 3}
	want := alone(t, script)
	for workers := 1; workers <= api.Workers; workers++ {
		got, err := Plays(slices.Repeat([][]int{script}, 100), workers)
		if len(got) != 100 || err != nil || slices.ContainsFunc(got, func(s string) bool { return s != want }) {
			t.Error(workers, len(got), err)
		}
	}
}

// P120: of each script as much as Run plays: MaxEdits numbers, whatever they are.
func TestPlaysMost(t *testing.T) {
	long := slices.Repeat([]int{-1}, api.MaxEdits-1)
	long = append(long, 8*1+2, 8*2+2)
	checkPlays(t, [][]int{long, long[:api.MaxEdits], long[:api.MaxEdits-1], long[1:], {math.MaxInt, math.MinInt}, slices.Repeat([]int{4}, 110)})
	got, err := Plays([][]int{long, long[:api.MaxEdits], long[1:]}, 3)
	if len(got) != 3 || got[0] != got[1] || got[0] == got[2] || err != nil {
		t.Error(got, err)
	}
}

// P120, P3: workers ahead of how many scripts there are; both told bare.
func TestPlaysWrong(t *testing.T) {
	for _, many := range []int{0, 1, 100, 101, 5000} {
		scripts := make([][]int, many)
		for _, workers := range wrongWorkers() {
			if got, err := Plays(scripts, workers); len(got) > 0 || err != api.ErrShape {
				t.Error(many, workers, got, err)
			}
		}
		for workers := 1; workers <= api.Workers; workers++ {
			got, err := Plays(scripts, workers)
			if many > 100 && (len(got) > 0 || err != api.ErrBound) || many <= 100 && (len(got) != many || err != nil) {
				t.Error(many, workers, len(got), err)
			}
		}
	}
	if got, err := Plays(nil, 0); len(got) > 0 || err != api.ErrShape {
		t.Error(got, err)
	}
}

// P4, P3: scripts are only read, also behind their lengths, and the sums are new memory.
func TestPlaysOnlyRead(t *testing.T) {
	inner := []int{8*1 + 2, 8*2 + 2, 8*3 + 5}
	scripts := [][]int{inner[:1], inner[:2], inner, {4}, nil}
	kept := [][]int{{10}, {10, 18}, {10, 18, 29}, {4}, nil}
	want := allAlone(t, kept)
	got, err := Plays(scripts[:4], 3)
	if !slices.Equal(got, want[:4]) || err != nil || !reflect.DeepEqual(scripts, kept) {
		t.Fatal(got, err, scripts)
	}
	again, err := Plays(scripts[:4], 4)
	clear(again)
	clear(inner)
	clear(scripts)
	if !slices.Equal(got, want[:4]) || err != nil {
		t.Error(got, err)
	}
}

// P2, P121: the same again, behind other calls, and side by side with them.
func TestPlaysAgain(t *testing.T) {
	scripts := someScripts(rand.New(rand.NewPCG(12, 3)), 30, 20)
	want := allAlone(t, scripts)
	var wait sync.WaitGroup
	for i := range 8 {
		wait.Go(func() {
			for workers := 1 + i%3; workers <= api.Workers; workers += 3 {
				if got, err := Plays(scripts, workers); !slices.Equal(got, want) || err != nil {
					t.Error(i, workers, got, err)
				}
			}
		})
	}
	wait.Wait()
}
