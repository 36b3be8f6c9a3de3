package cores_test

import (
	"fmt"
	"slices"
	"testing"

	"keyhold/api"
	"keyhold/cores"
	"keyhold/sample"
	"keyhold/world"
)

// Frames of a full world.
const (
	root, node, space, table, page, page2 = sample.Root, sample.Node, sample.Space, sample.Table, sample.Page, sample.Page2
	runs, next, sends, calls, waits       = sample.Runs, sample.Next, sample.Sends, sample.Calls, sample.Waits
	asks, listens, still                  = sample.Asks, sample.Listens, sample.Still
	door, desk, bell, rung                = sample.Door, sample.Desk, sample.Bell, sample.Rung
)

// machine is one with all cores at users, of a full world that is first altered.
func machine(t *testing.T, first ...sample.Change) cores.Machine {
	t.Helper()
	w := sample.Full()
	for _, change := range first {
		change(&w)
	}
	m, err := cores.New(w)
	if err != nil {
		t.Fatalf("this world to begin with: %v, %v", err, world.Check(w))
	}
	return m
}

// put: a core is at a stage, with locks, of which it has the first ones.
func put(m *cores.Machine, core, stage, have int, locks ...int) {
	m.Cores[core] = cores.Core{Stage: stage, Locks: locks, Have: have}
	for n := range have {
		m.Holder[locks[n]] = core
	}
}

// call makes a machine of another one, and tells what else it says, or refuses to.
type call func(m cores.Machine) (cores.Machine, string, error)

func steps(core int) call {
	return func(m cores.Machine) (cores.Machine, string, error) {
		got, went, err := cores.Step(m, core)
		return got, fmt.Sprint(went), err
	}
}

func runsBy(script ...int) call {
	return func(m cores.Machine) (cores.Machine, string, error) {
		got, done, err := cores.Run(m, script)
		return got, fmt.Sprint(done), err
	}
}

// same: are two machines alike?
func same(a, b cores.Machine) bool {
	alike := func(a, b cores.Core) bool {
		return a.Stage == b.Stage && a.Have == b.Have && slices.Equal(a.Locks, b.Locks)
	}
	return sample.Same(a.World, b.World) && slices.EqualFunc(a.Cores, b.Cores, alike) && slices.Equal(a.Holder, b.Holder)
}

// differences tells how two machines are not alike.
func differences(got, want cores.Machine) string {
	return fmt.Sprint(sample.Differences(got.World, want.World, fmt.Sprint),
		"cores ", got.Cores, ", want ", want.Cores, "; holders ", got.Holder, ", want ", want.Holder)
}

// roomy is the same machine in other memory, with marks behind each list; and that machine with these marks, in the same memory.
func roomy(m cores.Machine) (short, whole cores.Machine) {
	short.World, whole.World = sample.Roomy(m.World)
	short.Holder, whole.Holder = sample.Room(m.Holder, 4711)
	for _, c := range m.Cores {
		long := c
		c.Locks, long.Locks = sample.Room(c.Locks, 4711)
		short.Cores, whole.Cores = append(short.Cores, c), append(whole.Cores, long)
	}
	behind := cores.Core{Stage: 4711}
	var more []cores.Core
	short.Cores, more = sample.Room(short.Cores, behind)
	whole.Cores = append(whole.Cores, more[len(m.Cores):]...)
	return short, whole
}

// apart: do no two lists of a machine share memory? (All of them are spoiled by this.)
func apart(m cores.Machine) bool {
	w := m.World
	lists := slices.Concat([][]int{w.Ram, w.Kinds, w.Bits, w.Cores, w.Doms, m.Holder}, w.Lines, w.Ready)
	for _, c := range m.Cores {
		lists = append(lists, c.Locks)
	}
	for n, l := range lists {
		for i := range l {
			l[i] = 4711 + n
		}
	}
	for n, l := range lists {
		if slices.ContainsFunc(l, func(v int) bool { return v != 4711+n }) {
			return false
		}
	}
	for n := range m.Cores {
		m.Cores[n] = cores.Core{Stage: 4711}
	}
	return sample.Apart(w)
}

// done: a call makes the machine that is wanted, in memory of its own, and tells what it should; what was handed in stays as it was.
func done(t *testing.T, why string, m cores.Machine, do call, want cores.Machine, told string) {
	t.Helper()
	handed, whole := roomy(m)
	before := fmt.Sprint(whole)
	got, says, err := do(handed)
	if err != nil || says != told {
		t.Errorf("%s: %s, %v, want %s", why, says, err, told)
		return
	}
	if !same(got, want) {
		t.Errorf("%s: %s", why, differences(got, want))
	}
	if !apart(got) {
		t.Errorf("%s: two lists share memory", why)
	}
	if fmt.Sprint(whole) != before {
		t.Errorf("%s: what was handed in is written into, or handed out", why)
	}
}

// refused: a call makes no machine, tells the error (at a place; -1: nowhere) and nothing else, and changes nothing.
func refused(t *testing.T, why string, m cores.Machine, do call, what api.Errno, at int) {
	t.Helper()
	handed, whole := roomy(m)
	before := fmt.Sprint(whole)
	got, says, err := do(handed)
	wrong(t, why, err, what, at)
	if fmt.Sprint(got) != fmt.Sprint(cores.Machine{}) || says != "false" && says != "[]" {
		t.Errorf("%s: %v, %s beside an error", why, got, says)
	}
	if fmt.Sprint(whole) != before {
		t.Errorf("%s: what is refused changes something", why)
	}
}

// wrong: it is this error, bare, or a fault with it at a place (-1: nowhere; OK: no error).
func wrong(t *testing.T, why string, err error, what api.Errno, at int) {
	t.Helper()
	ok := err == error(what)
	if what == api.OK {
		ok = err == nil
	}
	if at >= 0 {
		f, is := err.(*api.Fault)
		ok = is && f.At == at && f.Err == error(what)
	}
	if !ok {
		t.Errorf("%s: %v, want error %d at %d", why, err, what, at)
	}
}

// unsound are worlds that are not sound.
func unsound() map[string]sample.Change {
	return map[string]sample.Change{
		"nothing":           func(w *api.World) { *w = api.World{} },
		"too late":          func(w *api.World) { w.Time = 1000001 },
		"no word":           func(w *api.World) { w.Ram[383] = 65536 },
		"no such core":      func(w *api.World) { w.Tasks[runs].Core = 2 },
		"both ways at once": func(w *api.World) { w.Tasks[calls].State = api.Waiting },
		"wrongly told":      func(w *api.World) { w.Tlbs[1][0].Frame = page },
	}
}

// M1: of a sound world all cores are at users, without locks; of another one there is no machine.
func TestNew(t *testing.T) {
	last := sample.Full()
	last.Time = 1000000
	for why, w := range map[string]api.World{
		"full": sample.Full(), "calm": sample.Calm(), "least": sample.Hollow(1, 1, 0), "most": sample.Hollow(24, 4, 0, 1, 2, 3, 0, 1, 2, 3), "at last": last,
	} {
		want := cores.Machine{World: w, Cores: make([]cores.Core, len(w.Cores)), Holder: slices.Repeat([]int{-1}, len(w.Kinds))}
		makes := func(m cores.Machine) (cores.Machine, string, error) {
			got, err := cores.New(m.World)
			if err == nil && cores.Check(got) != nil {
				t.Errorf("%s: a new machine is not well: %v", why, cores.Check(got))
			}
			return got, "", err
		}
		done(t, why, want, makes, want, "")
	}
	for why, spoil := range unsound() {
		w := sample.Full()
		spoil(&w)
		handed, whole := sample.Roomy(w)
		before := fmt.Sprint(whole)
		m, err := cores.New(handed)
		wrong(t, why, err, api.ErrState, -1)
		if fmt.Sprint(m) != fmt.Sprint(cores.Machine{}) || fmt.Sprint(whole) != before {
			t.Errorf("%s: %v beside an error", why, m)
		}
	}
}
