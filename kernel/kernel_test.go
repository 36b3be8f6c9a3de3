package kernel_test

import (
	"fmt"
	"math"
	"slices"
	"testing"

	"keyhold/api"
	"keyhold/kernel"
	"keyhold/sample"
	"keyhold/sched"
	"keyhold/world"
)

// Frames of a full world.
const (
	root, node, space, table, page, page2 = sample.Root, sample.Node, sample.Space, sample.Table, sample.Page, sample.Page2
	runs, next, sends, calls, waits       = sample.Runs, sample.Next, sample.Sends, sample.Calls, sample.Waits
	asks, listens, still                  = sample.Asks, sample.Listens, sample.Still
	door, desk, bell, rung                = sample.Door, sample.Desk, sample.Bell, sample.Rung
)

var full = sample.Full

type (
	change = sample.Change
	call   = sample.Call
)

func steps(core int) call {
	return func(w api.World) (api.World, error) { return kernel.Step(w, core) }
}

func runsBy(cores ...int) call {
	return func(w api.World) (api.World, error) { return kernel.Run(w, cores) }
}

func calling(core, n int) call {
	return func(w api.World) (api.World, error) { return kernel.Call(w, core, n) }
}

// done: of a full world, first altered, the call makes one that differs by what is wanted, and by nothing else.
func done(t *testing.T, why string, first change, do call, wanted change) {
	t.Helper()
	if wrong := sample.Done(first, do, wanted, fmt.Sprint); wrong != "" {
		t.Errorf("%s: %s", why, wrong)
	}
}

// refused: of a full world, first altered, the call makes none; nothing changes.
func refused(t *testing.T, why string, first change, do call, want api.Errno) {
	t.Helper()
	w := full()
	first(&w)
	if wrong := sample.Refused(w, do, want, fmt.Sprint); wrong != "" {
		t.Errorf("%s: %s", why, wrong)
	}
}

// faulted: likewise, with an error at a place.
func faulted(t *testing.T, why string, first change, do call, want api.Errno, at int) {
	t.Helper()
	bare := func(w api.World) (api.World, error) {
		got, err := do(w)
		if f, ok := err.(*api.Fault); !ok || f.At != at {
			t.Errorf("%s: %v, want it at %d", why, err, at)
		} else {
			err = f.Err
		}
		return got, err
	}
	refused(t, why, first, bare, want)
}

func asItIs(w *api.World) {}

// both changes, one behind the other.
func both(first, then change) change {
	return func(w *api.World) { first(w); then(w) }
}

// placed: task runs, on core 0, is of the domain whose turn it is, and finds all keys: slots 0 to 15 at these addresses, slots 16 to 31 at addresses 32 to 47.
func placed(more change) change {
	return func(w *api.World) {
		r := &w.Tasks[runs]
		r.Node, r.Dom, r.Prio = root, 1, 1
		r.Regs = [8]int{99, 98, 97, 96, 95, 94, 93, 92}
		more(w)
	}
}

// code puts an instruction's words, that task runs does next.
func code(words ...int) change {
	return placed(func(w *api.World) { copy(w.Ram[16*page:], words) })
}

// stopped: task runs is on core 0 no more, and Still.
func stopped(w *api.World) {
	w.Cores[0], w.Tasks[runs].State = -1, api.Still
}

// later: a step more was done.
func later(w *api.World) { w.Time++ }

// unsound are worlds that are not sound.
func unsound() map[string]change {
	return map[string]change{
		"nothing":           func(w *api.World) { *w = api.World{} },
		"too late":          func(w *api.World) { w.Time = 1000001 },
		"ahead of time":     func(w *api.World) { w.Time = -1 },
		"no cores":          func(w *api.World) { w.Cores = nil },
		"no such domain":    func(w *api.World) { w.Tasks[runs].Dom = 4 },
		"no word":           func(w *api.World) { w.Tasks[runs].Regs[7] = 65536 },
		"both ways at once": func(w *api.World) { w.Tasks[calls].State = api.Waiting },
		"nobody owes it":    func(w *api.World) { w.Tasks[runs].Owes = -1 },
		"wrongly told":      func(w *api.World) { w.Tlbs[1][0].Frame = page },
		"no key to it":      func(w *api.World) { w.Slots[5], w.Slots[22] = api.Slot{From: -1}, api.Slot{From: -1} },
	}
}

// K1: all refuse a world that is not sound, ahead of all else.
func TestUnsound(t *testing.T) {
	for why, spoil := range unsound() {
		for name, do := range map[string]call{
			"Step": steps(0), "Step of a core where nobody is": steps(1), "Step of no core": steps(-1),
			"Run": runsBy(0, 1), "Run of nothing": runsBy(), "Run of no core": runsBy(7), "Run of too much": runsBy(make([]int, 601)...),
			"Call": calling(0, 0), "Call of nothing": calling(0, 99), "Call of a core where nobody is": calling(1, 0), "Call of no core": calling(2, 0),
		} {
			refused(t, name+": "+why, spoil, do, api.ErrState)
		}
	}
}

// K1: only a core steps, or asks; of two, of four, of one.
func TestNoCore(t *testing.T) {
	four := func(w *api.World) { *w = sample.Hollow(1, 4, 0) }
	one := func(w *api.World) { *w = sample.Hollow(1, 1, 0) }
	for _, core := range []int{math.MinInt, -1, 4, math.MaxInt} {
		for why, first := range map[string]change{"two": asItIs, "four": four, "one": one} {
			refused(t, fmt.Sprint("Step of core ", core, " of ", why), first, steps(core), api.ErrRange)
			refused(t, fmt.Sprint("Call of core ", core, " of ", why), first, calling(core, 0), api.ErrRange)
			faulted(t, fmt.Sprint("Run of core ", core, " of ", why), first, runsBy(0, core), api.ErrRange, 1)
		}
	}
	refused(t, "a third core of two", asItIs, steps(2), api.ErrRange)
	refused(t, "a second core of one", one, steps(1), api.ErrRange)
	done(t, "the last core of four", four, steps(3), later)
	done(t, "the only core", one, steps(0), later)
	refused(t, "nobody on the last core of four", four, calling(3, 0), api.ErrEmpty)
}

// K1: the last time at which something is done is 999999.
func TestTime(t *testing.T) {
	at := func(time int) change { return func(w *api.World) { w.Time = time } }
	for name, do := range map[string]call{
		"Step": steps(0), "Step of nobody": steps(1), "Call": calling(0, 0), "Call of nobody": calling(1, 0), "Call of nothing": calling(0, 18),
	} {
		refused(t, name+" at the end of time", at(1000000), do, api.ErrRange)
	}
	faulted(t, "Run at the end of time", at(1000000), runsBy(0), api.ErrRange, 0)
	faulted(t, "Run up to the end of time, and on", at(999998), runsBy(1, 1, 1), api.ErrRange, 2)
	done(t, "Run of nothing at the end of time", at(1000000), runsBy(), asItIs)
	done(t, "the last step", both(at(999999), func(w *api.World) { w.Doms[1] = 3 }), steps(1), later)
	done(t, "the last steps", at(999998), runsBy(1, 1), func(w *api.World) { w.Time = 1000000 })
	done(t, "the last call", at(999999), calling(0, 18), func(w *api.World) { w.Tasks[runs].Regs[0] = int(api.ErrCall) })
}

// K1: Run is refused as a whole only if there are more than 600.
func TestRunTooMuch(t *testing.T) {
	refused(t, "601 steps", asItIs, runsBy(make([]int, 601)...), api.ErrRange)
	refused(t, "601 steps, of no core", asItIs, runsBy(slices.Repeat([]int{-1}, 601)...), api.ErrRange)
	refused(t, "601 steps at the end of time", func(w *api.World) { w.Time = 1000000 }, runsBy(make([]int, 601)...), api.ErrRange)
	empty := func(w *api.World) { *w = sample.Hollow(1, 1, 0) }
	done(t, "600 steps", empty, runsBy(make([]int, 600)...), func(w *api.World) { w.Time = 600 })
	faulted(t, "600 steps, the last one of no core", empty, runsBy(append(make([]int, 599), 1)...), api.ErrRange, 599)
}

// K1: Run tells the first step that has an error, and gives no world then, whatever went on before.
func TestRunFaults(t *testing.T) {
	for at := range 6 {
		cores := []int{0, 1, 0, 0, 1, 0}
		cores[at] = 2
		faulted(t, fmt.Sprint("no core at ", at), asItIs, runsBy(cores...), api.ErrRange, at)
		cores[5] = -1
		faulted(t, fmt.Sprint("no core at ", at, ", and later"), asItIs, runsBy(cores...), api.ErrRange, at)
	}
}

// K1: Run is Steps, core by core; of none the world as it is, in memory of its own.
func TestRunIsSteps(t *testing.T) {
	done(t, "no steps", asItIs, runsBy(), asItIs)
	first := code(0x0110, 7, 0x0310, 0, 0x0c00, 2) // set r1 7; add r1 r0; jump 2
	cores := []int{0, 1, 0, 0, 0, 1, 1, 0, 0}
	for n := range cores {
		w := full()
		first(&w)
		for _, core := range cores[:n] {
			later, err := kernel.Step(w, core)
			if err != nil {
				t.Fatal(err)
			}
			w = later
		}
		done(t, fmt.Sprint(n, " steps"), first, runsBy(cores[:n]...), func(other *api.World) { *other = w })
	}
}

// Z2: the list of cores stays as it was, and is not kept.
func TestRunKeepsNothing(t *testing.T) {
	whole := []int{0, 1, 0, 77, 78}
	got, err := kernel.Run(full(), whole[:3])
	before := fmt.Sprint(got)
	if err != nil || !slices.Equal(whole, []int{0, 1, 0, 77, 78}) {
		t.Errorf("%v, then %v", err, whole)
	}
	clear(whole)
	if fmt.Sprint(got) != before {
		t.Error("the list is kept")
	}
}

// K1: nobody on the core: nobody asks, whoever else is ready; no core settles by this.
func TestCallNobody(t *testing.T) {
	for _, n := range []int{math.MinInt, -1, 0, 7, 17, 18, math.MaxInt} {
		refused(t, fmt.Sprint("call ", n), asItIs, calling(1, n), api.ErrEmpty)
	}
}

// K1: in a call nothing else is done: it is no instruction, takes no time, and the core does not settle first.
func TestCallAlone(t *testing.T) {
	dom3 := full()
	if _, who, _ := sched.Pick(dom3, 0); who != -1 {
		t.Fatal("in this world it should not be the turn of who is on core 0")
	}
	done(t, "of a domain whose turn it is not", asItIs, calling(0, 4), func(w *api.World) {
		w.Tasks[asks].State, w.Tasks[runs].Owes, w.Ready[0] = api.Ready, -1, []int{asks}
		w.Tasks[asks].Regs[1], w.Tasks[asks].Regs[2] = 0, 2
	})
	done(t, "of the other core", func(w *api.World) {
		w.Ready[6], w.Cores[1] = nil, next
		w.Tasks[next].Node = -1
	}, calling(1, 5), func(w *api.World) { w.Tasks[next].Regs[0] = int(api.ErrKind) })
}

// K2: there are calls 0 to 17.
func TestNoCall(t *testing.T) {
	for _, n := range []int{math.MinInt, -65536, -1, 18, 19, 99, 65536, math.MaxInt} {
		done(t, fmt.Sprint("call ", n), asItIs, calling(0, n), func(w *api.World) { w.Tasks[runs].Regs[0] = 13 })
	}
	for word, n := range map[int]int{18: 18, 0x7fff: 32767, 0x8000: -32768, 0xffff: -1} {
		done(t, fmt.Sprint("sys ", n), code(0x0e00, word), steps(0), func(w *api.World) {
			w.Tasks[runs].Regs[0], w.Tasks[runs].Pc = 13, 2
			later(w)
		})
	}
	for n := range 18 {
		w := full()
		w.Tasks[runs].Regs[0] = 13
		got, err := kernel.Call(w, 0, n)
		if err != nil || got.Tasks[runs].Regs[0] == 13 || world.Check(got) != nil {
			t.Errorf("call %d: %v, register 0 is %d", n, err, got.Tasks[runs].Regs[0])
		}
	}
}
