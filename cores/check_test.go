package cores_test

import (
	"fmt"
	"math"
	"testing"

	"keyhold/api"
	"keyhold/cores"
)

// busy is a machine whose core 0 takes locks, of which it has 0 and 6; core 1 lets locks go, and has 1, 7 and 14 still.
func busy(t *testing.T) cores.Machine {
	t.Helper()
	m := machine(t)
	put(&m, 0, cores.Entry, 2, 0, 6, 11, 14)
	put(&m, 1, cores.Exit, 3, 1, 7, 14, 20)
	return m
}

// alter is something done to a machine.
type alter func(m *cores.Machine)

// is: a core is at a stage, whatever Holder says.
func is(core, stage, have int, locks ...int) alter {
	return func(m *cores.Machine) { m.Cores[core] = cores.Core{Stage: stage, Locks: locks, Have: have} }
}

// held: a lock is told to be a core's.
func held(frame, core int) alter {
	return func(m *cores.Machine) { m.Holder[frame] = core }
}

// checked: of a busy machine, altered, Check tells this error at this core (-1: bare), and Step and Run refuse what it doesn't find well.
func checked(t *testing.T, why string, what api.Errno, at int, alters ...alter) {
	t.Helper()
	m := busy(t)
	for _, change := range alters {
		change(&m)
	}
	handed, whole := roomy(m)
	before := fmt.Sprint(whole)
	wrong(t, why, cores.Check(handed), what, at)
	if fmt.Sprint(whole) != before {
		t.Errorf("%s: what was handed in is written into", why)
	}
	if what == api.OK {
		return
	}
	for _, core := range []int{0, 1, -1, 2} {
		refused(t, why+": Step", m, steps(core), api.ErrState, -1)
	}
	refused(t, why+": Run", m, runsBy(0, 1), api.ErrState, -1)
	refused(t, why+": Run of nothing", m, runsBy(), api.ErrState, -1)
	refused(t, why+": Run of no core", m, runsBy(7), api.ErrState, -1)
	refused(t, why+": Run of too much", m, runsBy(make([]int, 601)...), api.ErrState, -1)
}

// M1: machines that may be.
func TestCheckWell(t *testing.T) {
	all := []alter{held(0, -1), held(6, -1), held(1, -1), held(7, -1), held(14, -1)}
	at := func(more ...alter) []alter { return append(append([]alter{}, all...), more...) }
	checked(t, "busy", api.OK, -1)
	checked(t, "all at users", api.OK, -1, at(is(0, cores.User, 0), is(1, cores.User, 0))...)
	checked(t, "no locks at all at Entry", api.OK, -1, at(is(0, cores.Entry, 0), is(1, cores.Entry, 0))...)
	checked(t, "the same wanted, none had", api.OK, -1, at(is(0, cores.Entry, 0, 0, 23), is(1, cores.Entry, 0, 0, 23))...)
	checked(t, "the same wanted, one has both", api.OK, -1, at(is(0, cores.Entry, 0, 0, 23), is(1, cores.Entry, 2, 0, 23), held(0, 1), held(23, 1))...)
	checked(t, "all had at Exit", api.OK, -1, at(is(0, cores.Exit, 2, 0, 23), is(1, cores.Exit, 1, 9), held(0, 0), held(23, 0), held(9, 1))...)
}

// M1: what is not well with the machine as a whole is told bare.
func TestCheckWhole(t *testing.T) {
	checked(t, "nothing", api.ErrState, -1, func(m *cores.Machine) { *m = cores.Machine{} })
	for why, spoil := range unsound() {
		checked(t, why, api.ErrState, -1, func(m *cores.Machine) { spoil(&m.World) })
		checked(t, why+", and a core", api.ErrState, -1, func(m *cores.Machine) { spoil(&m.World) }, is(0, 3, 0))
	}
	checked(t, "a core less", api.ErrState, -1, func(m *cores.Machine) { m.Cores = m.Cores[:1] })
	checked(t, "no cores", api.ErrState, -1, func(m *cores.Machine) { m.Cores = nil })
	checked(t, "a core more", api.ErrState, -1, func(m *cores.Machine) { m.Cores = append(m.Cores, cores.Core{}) })
	checked(t, "a holder less", api.ErrState, -1, func(m *cores.Machine) { m.Holder = m.Holder[:23] })
	checked(t, "no holders", api.ErrState, -1, func(m *cores.Machine) { m.Holder = nil })
	checked(t, "a holder more", api.ErrState, -1, func(m *cores.Machine) { m.Holder = append(m.Holder, -1) })
	checked(t, "a core more, not well", api.ErrState, -1, func(m *cores.Machine) { m.Cores = append(m.Cores, cores.Core{}) }, is(0, 3, 0))
	checked(t, "a holder less, and a core not well", api.ErrState, -1, func(m *cores.Machine) { m.Holder = m.Holder[:23] }, is(0, 3, 0))
	checked(t, "a holder more, and a core not well", api.ErrState, -1, func(m *cores.Machine) { m.Holder = append(m.Holder, -1) }, is(0, 3, 0))
}

// M1: what is not well with a core.
func TestCheckCores(t *testing.T) {
	for core, own := range [][]int{{0, 6, 11, 14}, {1, 7, 14, 20}} {
		for _, stage := range []int{-1, 3, math.MinInt, math.MaxInt} {
			checked(t, "no such stage", api.ErrState, core, is(core, stage, 2, own...))
			checked(t, "no such stage, no locks", api.ErrState, core, is(core, stage, 0))
		}
		for _, have := range []int{-1, 5, math.MinInt, math.MaxInt} {
			checked(t, "more had than wanted", api.ErrState, core, is(core, cores.Entry, have, own...))
			checked(t, "likewise at Exit", api.ErrState, core, is(core, cores.Exit, have, own...))
		}
		for _, have := range []int{-1, 1} {
			checked(t, "had at a user", api.ErrState, core, is(core, cores.User, have))
			checked(t, "had of none", api.ErrState, core, is(core, cores.Entry, have))
		}
		checked(t, "wanted at a user", api.ErrState, core, is(core, cores.User, 0, own...))
		checked(t, "had at a user", api.ErrState, core, is(core, cores.User, 2, own...))
		checked(t, "none had at Exit", api.ErrState, core, is(core, cores.Exit, 0, own...))
		checked(t, "none at Exit", api.ErrState, core, is(core, cores.Exit, 0))
		for _, stage := range []int{cores.Entry, cores.Exit} {
			for _, locks := range [][]int{{-1}, {24}, {math.MinInt}, {math.MaxInt}, {5, 24}, {5, 5}, {5, 4}, {5, -1}, {5, 8, 8}, {5, 8, 3}, {5, math.MinInt}} {
				checked(t, fmt.Sprint("locks ", locks), api.ErrState, core, is(core, stage, 1, locks...))
				checked(t, fmt.Sprint("locks ", locks, " all had"), api.ErrState, core, is(core, stage, len(locks), locks...))
			}
		}
	}
}

// M1: no lock is had twice; core by core, and lock by lock, what comes first is told.
func TestCheckBusy(t *testing.T) {
	for _, stage := range []int{cores.Entry, cores.Exit} {
		checked(t, "both have 0", api.ErrBusy, 1, is(1, stage, 1, 0, 7))
		checked(t, "both have 6", api.ErrBusy, 1, is(1, stage, 2, 1, 6))
		checked(t, "both have 6, and one is no frame", api.ErrBusy, 1, is(1, stage, 2, 1, 6, 24))
		checked(t, "both have 6, and it is there twice", api.ErrBusy, 1, is(1, stage, 3, 1, 6, 6))
		checked(t, "one is there twice, and both have 6", api.ErrState, 1, is(1, stage, 3, 1, 1, 6))
		checked(t, "one falls, and both have 0", api.ErrState, 1, is(1, stage, 2, 3, 0))
		checked(t, "both have 6, more than wanted", api.ErrState, 1, is(1, stage, 2, 6))
		checked(t, "core 0 is not well, and both have 0", api.ErrState, 0, is(0, stage, 2, 0, 0), is(1, stage, 1, 0))
		checked(t, "core 0 is not well behind what both have", api.ErrState, 0, is(0, stage, 1, 0, 24), is(1, stage, 1, 0))
		checked(t, "both have 0, and Holder is wrong", api.ErrBusy, 1, is(1, stage, 1, 0), held(0, -1), held(5, 1))
	}
	checked(t, "at a user, but both have 0", api.ErrState, 1, is(1, cores.User, 1, 0))
	checked(t, "no such stage, but both have 0", api.ErrState, 1, is(1, 3, 1, 0))
}

// M1: Holder is what the cores have; this is told bare, behind what is not well with the cores.
func TestCheckHolder(t *testing.T) {
	for _, frame := range []int{0, 6, 1, 7, 14} {
		checked(t, "had, and told to be nobody's", api.ErrState, -1, held(frame, -1))
		checked(t, "had, and told to be of no core", api.ErrState, -1, held(frame, 2))
	}
	checked(t, "another one's", api.ErrState, -1, held(0, 1))
	checked(t, "another one's", api.ErrState, -1, held(14, 0))
	for _, frame := range []int{11, 20, 5, 23} {
		for _, core := range []int{0, 1, 2, -2, math.MinInt, math.MaxInt} {
			checked(t, "not had, and told to be", api.ErrState, -1, held(frame, core))
		}
	}
	checked(t, "a core is told first", api.ErrState, 1, held(0, -1), is(1, cores.Exit, 0, 1))
}

// M1: of four cores each is held against all of those ahead.
func TestCheckFour(t *testing.T) {
	four := func(w *api.World) {
		w.Cores, w.Ready = append(w.Cores, -1, -1), append(w.Ready, make([][]int, 8)...)
		w.Tlbs = append(w.Tlbs, nil, nil)
	}
	for ahead := range 4 {
		for core := ahead + 1; core < 4; core++ {
			m := machine(t, four)
			put(&m, ahead, cores.Entry, 1, 9, 10)
			put(&m, core, cores.Exit, 1, 8, 9)
			wrong(t, "well", cores.Check(m), api.OK, -1)
			put(&m, core, cores.Exit, 2, 8, 9)
			wrong(t, fmt.Sprint(ahead, " and ", core, " have 9"), cores.Check(m), api.ErrBusy, core)
		}
	}
}
