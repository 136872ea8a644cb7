package side

import (
	"errors"
	"runtime"
	"slices"
	"strconv"
	"sync"
	"sync/atomic"
	"testing"
	"time"

	"leadlight/api"
)

// Ways: for any task and any answer; in the tasks' order, by however many workers.
func TestEachAnyType(t *testing.T) {
	type pair struct{ a, b float64 }
	words := []string{"a", "", "ccc", "bb"}
	for workers := 1; workers <= api.Workers; workers++ {
		lengths, err := each(words, workers, func(s string) (int, error) { return len(s), nil })
		if !slices.Equal(lengths, []int{1, 0, 3, 2}) || err != nil {
			t.Error(workers, lengths, err)
		}
		pairs, err := each(lengths, workers, func(n int) (*pair, error) { return &pair{float64(n), 1}, nil })
		if len(pairs) != 4 || *pairs[0] != (pair{1, 1}) || *pairs[2] != (pair{3, 1}) || err != nil {
			t.Error(workers, pairs, err)
		}
		calls, err := each(pairs, workers, func(p *pair) (func() float64, error) { return func() float64 { return p.a + p.b }, nil })
		if len(calls) != 4 || calls[2]() != 4 || calls[3]() != 3 || err != nil {
			t.Error(workers, err)
		}
		if l, err := each(nil, workers, func(p pair) (pair, error) { return p, nil }); len(l) > 0 || err != nil {
			t.Error(workers, l, err)
		}
	}
}

// Each task is done once, also where there are fewer tasks than workers, or many more.
func TestEachOnce(t *testing.T) {
	for workers := 1; workers <= api.Workers; workers++ {
		for _, many := range []int{0, 1, 2, 15, 16, 17, 100, 1000} {
			times := make([]atomic.Int32, many)
			got, err := each(numbersTo(many), workers, func(n int) (string, error) {
				times[n].Add(1)
				return strconv.Itoa(n), nil
			})
			if len(got) != many || err != nil {
				t.Fatal(workers, many, got, err)
			}
			for n := range times {
				if times[n].Load() != 1 || got[n] != strconv.Itoa(n) {
					t.Fatal(workers, many, n, times[n].Load(), got[n])
				}
			}
		}
	}
}

// meeting of so many at once: each that comes waits until all are there.
type meeting struct {
	lock      sync.Mutex
	here, all int
	full      chan int
}

// come, and be told whether the others did, too.
func (m *meeting) come() bool {
	m.lock.Lock()
	m.here++
	if m.here == m.all {
		close(m.full)
	}
	m.lock.Unlock()
	select {
	case <-m.full:
		return true
	case <-time.After(20 * time.Second):
		return false
	}
}

// Ways: they work side by side: as many as asked for are at work at once (a task goes on only when all are there), and no more.
func TestEachSideBySide(t *testing.T) {
	for workers := 1; workers <= api.Workers; workers++ {
		m := &meeting{all: workers, full: make(chan int)}
		var now, most atomic.Int32
		met, err := each(numbersTo(5*workers), workers, func(n int) (bool, error) {
			many := now.Add(1)
			for was := most.Load(); many > was && !most.CompareAndSwap(was, many); was = most.Load() {
			}
			met := m.come()
			now.Add(-1)
			return met, nil
		})
		if slices.Contains(met, false) || err != nil || most.Load() != int32(workers) {
			t.Fatal(workers, met, err, most.Load())
		}
	}
}

// Answers stand in the tasks' order, though the last task ends first: each waits for the one behind it.
func TestEachBackward(t *testing.T) {
	const many = api.Workers
	var ended [many + 1]chan int
	for i := range ended {
		ended[i] = make(chan int)
	}
	close(ended[many])
	got, err := each(numbersTo(many), many, func(n int) (int, error) {
		<-ended[n+1]
		close(ended[n])
		return 10 * n, nil
	})
	for n := range got {
		if got[n] != 10*n {
			t.Fatal(got)
		}
	}
	if len(got) != many || err != nil {
		t.Error(got, err)
	}
}

// P3, P121: of several errors the first one in the tasks' order is told, and no answer, though a later one is told earlier.
func TestEachFirstError(t *testing.T) {
	early, late := errors.New("early"), errors.New("late")
	for workers := 2; workers <= api.Workers; workers++ {
		told := make(chan int)
		got, err := each(numbersTo(40), workers, func(n int) (int, error) {
			switch n {
			case 0:
				<-told
				return 0, early
			case 1:
				close(told)
				return 1, late
			}
			return n, nil
		})
		if len(got) > 0 || err != early {
			t.Error(workers, got, err)
		}
	}
	for workers := 1; workers <= api.Workers; workers++ {
		for first := range 40 {
			got, err := each(numbersTo(40), workers, func(n int) (int, error) {
				if n == first {
					return n, early
				}
				if n > first {
					return n, late
				}
				return n, nil
			})
			if len(got) > 0 || err != early {
				t.Fatal(workers, first, got, err)
			}
		}
	}
}

// All are joined when the call answers: nobody is at work any more, and no goroutine is left.
func TestEachJoined(t *testing.T) {
	before := runtime.NumGoroutine()
	for i := range 300 {
		workers := 1 + i%api.Workers
		var now atomic.Int32
		_, err := each(numbersTo(i%50), workers, func(n int) (int, error) {
			now.Add(1)
			defer now.Add(-1)
			runtime.Gosched()
			if n == 7 {
				return 0, api.ErrText
			}
			return n, nil
		})
		if now.Load() != 0 || (err != nil) != (i%50 > 7) {
			t.Fatal(i, now.Load(), err)
		}
	}
	for range 1000 { // one that is done may still be on its way out
		if runtime.NumGoroutine() <= before {
			return
		}
		time.Sleep(time.Millisecond)
	}
	t.Error(runtime.NumGoroutine(), "goroutines, before:", before)
}
