package desk

import (
	"sync"
	"sync/atomic"

	"rafter/api"
	"rafter/give"
)

// How many work at a time, at the most.
const mostWorkers = 8

// tasks are frames with their loads; taken is how many of them workers have asked for.
type tasks struct {
	frames []api.Frame
	loads  [][]api.Load
	taken  atomic.Int64
}

// result is what came of one task, and of which: they come in any order.
type result struct {
	task  int
	moved api.Moved
	fault api.Fault
}

// results is what comes of all tasks. The channel has room for all of it, so that no worker waits for who receives; when it is closed, every worker has ended.
func (t *tasks) results() <-chan result {
	out := make(chan result, len(t.frames))
	var busy sync.WaitGroup
	for range min(mostWorkers, len(t.frames)) {
		busy.Add(1)
		go func() {
			defer busy.Done()
			t.work(out)
		}()
	}
	busy.Wait()
	close(out)
	return out
}

// work does one task after the other, each the next that nobody has taken.
func (t *tasks) work(out chan<- result) {
	for {
		i := int(t.taken.Add(1)) - 1
		if i >= len(t.frames) {
			return
		}
		moved, fault := give.Move(t.frames[i], t.loads[i])
		out <- result{task: i, moved: moved, fault: fault}
	}
}

// inOrder has the results of n tasks in the order of these.
func inOrder(n int, results <-chan result) ([]api.Moved, []api.Fault) {
	moved, faults := make([]api.Moved, n), make([]api.Fault, n)
	for {
		r, ok := <-results
		if !ok {
			return moved, faults
		}
		moved[r.task], faults[r.task] = r.moved, r.fault
	}
}
