package farm_test

import (
	"fmt"
	"math"
	"testing"

	"keyhold/api"
	"keyhold/farm"
	"keyhold/sample"
	"keyhold/world"
)

// sum: that is the Sum of a sound world, and it only reads it, and nothing behind its lists.
func sum(t *testing.T, why string, w api.World, want int) {
	t.Helper()
	if err := world.Check(w); err != nil {
		t.Fatalf("%s: this world is not sound: %v", why, err)
	}
	handed, whole := sample.Roomy(w)
	before := fmt.Sprint(whole)
	if got := farm.Sum(handed); got != want {
		t.Errorf("%s: %d, want %d", why, got, want)
	}
	if fmt.Sprint(whole) != before {
		t.Errorf("%s: what was handed in is written into", why)
	}
}

// O1: each word of memory counts as often as its number tells, from 1 on, whatever frame it is of.
func TestSumOfWords(t *testing.T) {
	for _, frames := range []int{1, 2, 24} {
		w := sample.Hollow(frames, 1, 0)
		sum(t, "nothing", w, 0)
		for n := range w.Ram {
			w.Ram[n] = 1
			sum(t, fmt.Sprint("word ", n), w, n+1)
			w.Ram[n] = 65535
			sum(t, fmt.Sprint("word ", n), w, 65535*(n+1))
			w.Ram[n] = 0
		}
	}
	w := sample.Hollow(24, 1, 0)
	for n := range w.Ram {
		w.Ram[n] = 65535
	}
	sum(t, "all that may be", w, 4844347200) // 65535 times 384 * 385 / 2
}

// O1: each register of each task counts as often as its number tells, from 1 to 8, in each task anew.
func TestSumOfRegisters(t *testing.T) {
	w := sample.Calm()
	clear(w.Ram)
	clear(w.Tlbs)
	for task := sample.Runs; task <= sample.Still; task++ {
		w.Tasks[task].Regs = [8]int{}
	}
	sum(t, "noughts", w, 0)
	for task := sample.Runs; task <= sample.Still; task++ {
		for n := range 8 {
			w.Tasks[task].Regs[n] = 1
			sum(t, fmt.Sprint("register ", n, " of ", task), w, n+1)
			w.Tasks[task].Regs[n] = 65535
			sum(t, fmt.Sprint("register ", n, " of ", task), w, 65535*(n+1))
			w.Tasks[task].Regs[n] = 0
		}
	}
	for task := sample.Runs; task <= sample.Still; task++ {
		w.Tasks[task].Regs = [8]int{1, 10, 100, 1000, 0, 0, 0, 10000}
	}
	sum(t, "all tasks", w, 8*84321)
	w.Ram[0], w.Ram[383] = 5, 7
	sum(t, "all tasks and two words", w, 8*84321+5+7*384)
}

// O1: nothing else counts.
func TestSumOfNothingElse(t *testing.T) {
	for why, change := range map[string]sample.Change{
		"as it is":         func(w *api.World) {},
		"time":             func(w *api.World) { w.Time = 1000000 },
		"a bell":           func(w *api.World) { w.Bits[sample.Rung] = 1 },
		"domains":          func(w *api.World) { w.Doms = []int{3, 3, 3} },
		"Pc":               func(w *api.World) { w.Tasks[sample.Runs].Pc = 99 },
		"Prio and Dom":     func(w *api.World) { w.Tasks[sample.Still].Prio, w.Tasks[sample.Still].Dom = 0, 3 },
		"a sent word":      func(w *api.World) { w.Tasks[sample.Sends].Word, w.Tasks[sample.Sends].Badge = 0, 9 },
		"memory of tables": func(w *api.World) { w.Tlbs[0] = nil },
		"a key":            func(w *api.World) { w.Slots[30] = sample.Key(api.Page, sample.Page, 7, 0, 5) },
	} {
		w := sample.Full()
		change(&w)
		// Registers of Runs: 65535 (2), 2 .. 6 (3 .. 7), 65535 (8); a word of the space, two of the table.
		sum(t, why, w, 65535*10+6+12+20+30+42+0x8003*33+0x8004*49+0xc005*50)
	}
}

// Z1: of no sound world it ends all the same.
func TestSumOfUnsound(t *testing.T) {
	for _, spoil := range unsound() {
		w := sample.Full()
		spoil(&w)
		farm.Sum(w)
	}
	farm.Sum(api.World{Ram: []int{math.MaxInt, math.MinInt, math.MaxInt}, Tasks: []api.Running{{Regs: [8]int{7: math.MinInt}}}})
	farm.Sum(api.World{Tasks: make([]api.Running, 100)})
	farm.Sum(api.World{Ram: make([]int, 100000)})
}
