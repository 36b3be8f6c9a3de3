package cores_test

import (
	"math"
	"slices"
	"testing"

	"keyhold/api"
	"keyhold/cores"
	"keyhold/kernel"
	"keyhold/sample"
)

// atDoor are the locks that task runs wants when it asks at the door.
func atDoor() []int { return []int{root, runs, sends, calls, asks, door} }

// behind is a machine's world behind a whole step of a core.
func behind(t *testing.T, m cores.Machine, core int) api.World {
	t.Helper()
	w, err := kernel.Step(m.World, core)
	if err != nil {
		t.Fatal(err)
	}
	return w
}

// M3: a core takes its locks one by one, goes on with all of them, and lets them go one by one, the last one first.
func TestStepThrough(t *testing.T) {
	m := machine(t, sys(15, 1))
	first := m.World
	locks := atDoor()
	for have := range len(locks) + 1 {
		want := machine(t, sys(15, 1))
		put(&want, 0, cores.Entry, have, locks...)
		done(t, "Entry", m, steps(0), want, "false")
		m = want
	}
	want := machine(t, sys(15, 1))
	put(&want, 0, cores.Exit, len(locks), locks...)
	want.World = behind(t, m, 0)
	done(t, "all are had", m, steps(0), want, "true")
	m = want
	for have := len(locks) - 1; have >= 0; have-- {
		want := machine(t, sys(15, 1))
		want.World = m.World
		if have > 0 {
			put(&want, 0, cores.Exit, have, locks...)
		}
		done(t, "Exit", m, steps(0), want, "false")
		m = want
	}
	done(t, "all at once", machine(t, sys(15, 1)), runsBy(make([]int, 2*len(locks)+2)...), m, "[0]")
	if w, err := kernel.Run(first, []int{0}); err != nil || !sample.Same(w, m.World) {
		t.Errorf("one whole step: %v", err)
	}
}

// M3: a lock that another core has is not taken, and nothing is done; when it is let go it is.
func TestStepWaits(t *testing.T) {
	for _, stage := range []int{cores.Entry, cores.Exit} {
		m := machine(t, sys(15, 1))
		put(&m, 0, cores.Entry, 3, atDoor()...)
		put(&m, 1, stage, 2, node, calls)
		done(t, "another one has it", m, steps(0), m, "false")
		done(t, "and again", m, runsBy(0, 0, 0, 0), m, "[]")
	}
	m := machine(t, sys(15, 1))
	put(&m, 0, cores.Entry, 3, atDoor()...)
	put(&m, 1, cores.Exit, 1, calls)
	want := machine(t, sys(15, 1))
	put(&want, 0, cores.Entry, 4, atDoor()...)
	done(t, "it is let go", m, runsBy(0, 1, 0), want, "[]")
	m = machine(t, sys(15, 1))
	put(&m, 0, cores.Entry, 3, atDoor()...)
	put(&m, 1, cores.Entry, 1, asks)
	want = machine(t, sys(15, 1))
	put(&want, 0, cores.Entry, 4, atDoor()...)
	put(&want, 1, cores.Entry, 1, asks)
	done(t, "another one has a later one", m, steps(0), want, "false")
	done(t, "and then that one", m, runsBy(0, 0, 0), want, "[]")
}

// M3: a core that has all of its locks, but wants other ones now, lets them go without going on.
func TestStepOthersWanted(t *testing.T) {
	stays := func(why string, locks []int, first ...sample.Change) {
		t.Helper()
		m, want := machine(t, first...), machine(t, first...)
		put(&m, 0, cores.Entry, len(locks), locks...)
		put(&want, 0, cores.Exit, len(locks), locks...)
		done(t, why, m, steps(0), want, "false")
		free := machine(t, first...)
		done(t, why+", and lets go", m, runsBy(make([]int, len(locks)+1)...), free, "[]")
	}
	less, more, other := atDoor()[:5], append(atDoor(), 20), atDoor()
	other[5] = desk
	stays("less", less, sys(15, 1))
	stays("more", more, sys(15, 1))
	stays("others", other, sys(15, 1))
	stays("all, but the last", all()[:23], sys(15, 7))
	stays("not all", atDoor(), sys(15, 7))
	stays("all, where few are wanted", all(), sys(15, 1))
	stays("none are wanted", atDoor(), asking(15, 0x0110, 3))
	stays("nobody is there", atDoor(), sys(15, 1), func(w *api.World) { w.Tasks[runs].Dom = 0 })
	stays("another address", atDoor(), sys(32, 1))
}

// M3: what others do while a core takes its locks changes what it wants: it lets go, and tries anew.
func TestStepAnew(t *testing.T) {
	m := machine(t, sys(15, 1), func(w *api.World) {
		w.Time = 4
		w.Tasks[next].Pc, w.Tasks[next].Dom, w.Tasks[next].Node, w.Tasks[next].Regs[1] = 16, 1, root, 15
		copy(w.Ram[16*page2:], []int{0x0e00, 1})
	})
	got, by, err := cores.Run(m, slices.Concat(
		slices.Repeat([]int{0}, 2), // core 0 wants the door's locks, and has the first
		slices.Repeat([]int{1}, 3), // core 1 wants them, too, and waits for the first
		slices.Repeat([]int{0}, 6), // core 0 has them all, and goes on: it stands at the door, too
		slices.Repeat([]int{0}, 6), // and lets them go
		slices.Repeat([]int{1}, 6), // core 1 has all that it wanted, but wants one more by now
	))
	want := []int{root, next, sends, calls, door}
	if err != nil || len(by) != 1 || by[0] != 0 || got.Cores[1].Stage != cores.Exit || !slices.Equal(got.Cores[1].Locks, want) {
		t.Fatalf("%v by %v, %v", got.Cores, by, err)
	}
	got, by, err = cores.Run(got, slices.Repeat([]int{1}, 5+1+6+1))
	want = []int{root, runs, next, sends, calls, door}
	if err != nil || !slices.Equal(by, []int{1}) || got.Cores[1].Stage != cores.Exit || got.Cores[1].Have != 6 || !slices.Equal(got.Cores[1].Locks, want) {
		t.Fatalf("%v by %v, %v", got.Cores, by, err)
	}
}

// M3: at Exit the last one goes that a core has, also where it has not all of them; the world is not asked.
func TestStepExit(t *testing.T) {
	for have := 1; have <= 6; have++ {
		m, want := machine(t, sys(15, 1)), machine(t, sys(15, 1))
		put(&m, 0, cores.Exit, have, atDoor()...)
		if have > 1 {
			put(&want, 0, cores.Exit, have-1, atDoor()...)
		}
		done(t, "Exit", m, steps(0), want, "false")
	}
	m, want := machine(t, sys(15, 1)), machine(t, sys(15, 1))
	put(&m, 0, cores.Entry, 1, root, runs)
	put(&m, 1, cores.Exit, 2, desk, rung)
	put(&want, 0, cores.Entry, 1, root, runs)
	put(&want, 1, cores.Exit, 1, desk, rung)
	done(t, "others stay", m, steps(1), want, "false")
}

// M3: a core at Entry that wants nothing has all of it: it goes on, if it still wants nothing, and is at Exit then; M1 has no such machine any more.
func TestStepWithoutLocks(t *testing.T) {
	m, want := machine(t), machine(t)
	put(&m, 0, cores.Entry, 0)
	put(&want, 0, cores.Exit, 0)
	want.World = behind(t, m, 0)
	done(t, "none, and none wanted", m, steps(0), want, "true")
	refused(t, "and then", want, steps(1), api.ErrState, -1)
	refused(t, "and then, of a script", m, runsBy(1, 0, 1), api.ErrState, 2)
	m, want = machine(t, sys(15, 1)), machine(t, sys(15, 1))
	put(&m, 0, cores.Entry, 0)
	put(&want, 0, cores.Exit, 0)
	done(t, "none, and some wanted", m, steps(0), want, "false")
}

// M3: whatever a core is at, it must be one, and time must be left.
func TestStepRange(t *testing.T) {
	at := func(time int) []cores.Machine {
		late := func(w *api.World) { w.Time, w.Tasks[runs].Dom = time, w.Doms[time/4%2] }
		var l []cores.Machine
		for _, put0 := range []func(m *cores.Machine){
			func(m *cores.Machine) {},
			func(m *cores.Machine) { put(m, 0, cores.Entry, 2, atDoor()...) },
			func(m *cores.Machine) { put(m, 0, cores.Entry, 6, atDoor()...) },
			func(m *cores.Machine) { put(m, 0, cores.Exit, 6, atDoor()...) },
		} {
			m := machine(t, sys(15, 1), late)
			put0(&m)
			l = append(l, m)
		}
		return l
	}
	for _, m := range at(1000000) {
		refused(t, "no time is left", m, steps(0), api.ErrRange, -1)
		refused(t, "no time is left", m, steps(1), api.ErrRange, -1)
		refused(t, "no time is left in a script", m, runsBy(0), api.ErrRange, 0)
		done(t, "no time is left, and nothing is done", m, runsBy(), m, "[]")
	}
	for _, m := range at(999999) {
		for _, core := range []int{-1, 2, 4, math.MinInt, math.MaxInt} {
			refused(t, "no core", m, steps(core), api.ErrRange, -1)
			refused(t, "no core in a script", m, runsBy(core), api.ErrRange, 0)
		}
		if got, went, err := cores.Step(m, 1); err != nil || !went || got.World.Time != 1000000 {
			t.Errorf("the last step: %v, %v at time %d", err, went, got.World.Time)
		}
	}
}
