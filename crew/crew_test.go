package crew_test

import (
	"runtime"
	"slices"
	"sync"
	"sync/atomic"
	"testing"
	"time"

	"keyhold/crew"
)

// numbers 0, 1 .., so many.
func numbers(many int) []int {
	var l []int
	for n := range many {
		l = append(l, n)
	}
	return l
}

// What comes of each job stands at its place, however many hands there are; each job is done once.
func TestEach(t *testing.T) {
	for _, many := range []int{0, 1, 2, 7, 8, 9, 40, 1000} {
		for hands := 1; hands <= 9; hands++ {
			done := make([]atomic.Int32, many)
			got := crew.Each(numbers(many), hands, func(n int) string {
				done[n].Add(1)
				return string(rune('a' + n))
			})
			if len(got) != many {
				t.Fatalf("%d hands: %d outs of %d jobs", hands, len(got), many)
			}
			for n := range many {
				if got[n] != string(rune('a'+n)) || done[n].Load() != 1 {
					t.Errorf("%d hands: job %d, done %d times: %q", hands, n, done[n].Load(), got[n])
				}
			}
		}
	}
}

// Jobs that take longer don't change where anything stands: here each job waits for the one behind it, so that the last one is done first.
func TestOrder(t *testing.T) {
	const many = 5
	var done [many + 1]chan struct{}
	for n := range done {
		done[n] = make(chan struct{})
	}
	close(done[many])
	got := crew.Each(numbers(many), many, func(n int) int {
		<-done[n+1]
		close(done[n])
		return 10 * n
	})
	if !slices.Equal(got, []int{0, 10, 20, 30, 40}) {
		t.Errorf("%v", got)
	}
}

// All hands work at once: none goes on ahead of all having begun.
func TestAtOnce(t *testing.T) {
	for hands := 1; hands <= 8; hands++ {
		var begun sync.WaitGroup
		begun.Add(hands)
		crew.Each(numbers(hands), hands, func(int) int {
			begun.Done()
			begun.Wait()
			return 0
		})
	}
}

// There are never more at work than there are hands.
func TestNoMore(t *testing.T) {
	for hands := 1; hands <= 8; hands++ {
		var now, most atomic.Int32
		crew.Each(numbers(200), hands, func(int) int {
			if n := now.Add(1); n > most.Load() {
				most.Store(n)
			}
			runtime.Gosched()
			now.Add(-1)
			return 0
		})
		if int(most.Load()) > hands {
			t.Errorf("%d hands: %d at work at once", hands, most.Load())
		}
	}
}

// Nobody is left when it answers, not even where there was nothing to do.
func TestAllHome(t *testing.T) {
	before := runtime.NumGoroutine()
	for _, many := range []int{0, 1, 5, 40} {
		for range 50 {
			crew.Each(numbers(many), 8, func(n int) int { return n })
		}
	}
	for n := 0; runtime.NumGoroutine() > before; n++ {
		if n == 5000 {
			t.Fatalf("%d are left", runtime.NumGoroutine()-before)
		}
		time.Sleep(time.Millisecond) // one that is home may still be on its way out
	}
}

// The jobs are only read, and what comes out is other memory.
func TestMemory(t *testing.T) {
	jobs := []int{3, 1, 2, 4711}
	got := crew.Each(jobs[:3], 2, func(n int) int { return n })
	got = append(got, 9)
	clear(got)
	if !slices.Equal(jobs, []int{3, 1, 2, 4711}) {
		t.Errorf("the jobs are %v", jobs)
	}
}
