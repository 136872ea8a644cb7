package side

import "sync"

// made of a task. Its number goes with it, as workers end in any order.
type made[A any] struct {
	number int
	answer A
	err    error
}

// each task's answer, in the tasks' order, or the first error in that order: nothing shows of who was quicker. There must be a worker.
func each[T, A any](tasks []T, workers int, do func(task T) (A, error)) ([]A, error) {
	numbers, results := make(chan int), make(chan made[A])
	var wait sync.WaitGroup
	for range min(workers, len(tasks)) { // one without a task would only wait
		wait.Add(1)
		go func() {
			defer wait.Done()
			work(tasks, do, numbers, results)
		}()
	}
	all := handOut(len(tasks), numbers, results)
	wait.Wait()
	return inOrder(all)
}

// work on the tasks whose numbers come, until there are no more.
func work[T, A any](tasks []T, do func(task T) (A, error), numbers <-chan int, results chan<- made[A]) {
	for n := range numbers {
		answer, err := do(tasks[n])
		results <- made[A]{number: n, answer: answer, err: err}
	}
}

// handOut so many numbers, and take in what is made of them. One select does both: one that only handed out would wait for workers that all wait to send.
func handOut[A any](many int, numbers chan<- int, results <-chan made[A]) []made[A] {
	all := make([]made[A], many)
	out := numbers
	for next, got := 0, 0; got < many; {
		if next == many {
			out = nil // never ready: only results are left
		}
		select {
		case out <- next:
			next++
		case m := <-results:
			all[m.number] = m
			got++
		}
	}
	close(numbers)
	return all
}

// inOrder of the tasks: the answers alone.
func inOrder[A any](all []made[A]) ([]A, error) {
	var answers []A
	for _, m := range all {
		if m.err != nil {
			return nil, m.err
		}
		answers = append(answers, m.answer)
	}
	return answers, nil
}
