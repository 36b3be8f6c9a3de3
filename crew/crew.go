// Package crew: many hands at a list of jobs.
package crew

import "sync"

// end: what came of a job, and of which one.
type end[Out any] struct {
	job int
	out Out
}

// Each is what comes of each of the jobs, in their order, by so many hands (at least one) that work at once. All of them are home when it answers.
func Each[Job, Out any](jobs []Job, hands int, do func(job Job) Out) []Out {
	todo, ends := make(chan int), make(chan end[Out])
	var away sync.WaitGroup
	// What is deferred last is done first: hands come home only when they hear that there is nothing more to do.
	defer away.Wait()
	defer close(todo)
	for range hands {
		away.Add(1)
		go func() {
			defer away.Done()
			for n := range todo {
				ends <- end[Out]{job: n, out: do(jobs[n])}
			}
		}()
	}
	return share(len(jobs), todo, ends)
}

// share hands the numbers of so many jobs on, and takes in what came of them. It does whichever a hand is ready for: if it handed on all of them first, it would wait for hands that wait for it.
func share[Out any](many int, todo chan<- int, ends <-chan end[Out]) []Out {
	outs := make([]Out, many)
	next := 0
	for range 2 * many {
		if next == many {
			todo = nil // no hand ever takes anything there: from now on only ends come
		}
		select {
		case todo <- next:
			next++
		case e := <-ends:
			outs[e.job] = e.out // each has its own place: which end comes first is not to be seen
		}
	}
	return outs
}
