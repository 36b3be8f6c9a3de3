package cores_test

import (
	"fmt"
	"slices"
	"testing"

	"keyhold/api"
	"keyhold/boot"
	"keyhold/cores"
	"keyhold/kernel"
	"keyhold/sample"
)

// isFree: can a core of the machine still do something?
func isFree(t *testing.T, m cores.Machine) bool {
	t.Helper()
	for core := range m.Cores {
		then, _, err := cores.Step(m, core)
		if err != nil {
			t.Fatal(err)
		}
		if !same(then, m) {
			return true
		}
	}
	return false
}

// ends: when all cores take turns, in whatever order, each of them comes to its user again, and the world goes on.
func ends(t *testing.T, m cores.Machine, backwards bool) int {
	t.Helper()
	order := slices.Repeat([]int{0}, len(m.Cores))
	for n := range order {
		order[n] = n
	}
	if backwards {
		slices.Reverse(order)
	}
	first, been, went := m, map[int]int{}, false
	for round := range 300 {
		for _, core := range order {
			then, on, err := cores.Step(m, core)
			if err != nil {
				t.Fatal(err)
			}
			if m, went = then, went || on; m.Cores[core].Stage == cores.User {
				been[core]++
			}
		}
		if len(been) == len(m.Cores) && went {
			return round
		}
	}
	t.Fatalf("cores %v come to %v, and never to their users", first.Cores, m.Cores)
	return 0
}

// scattered is a machine that may be, with cores wherever.
func scattered(t *testing.T, d *sample.Die) cores.Machine {
	t.Helper()
	m, err := cores.New(crowd(d))
	if err != nil {
		t.Fatal(err)
	}
	for core := range m.Cores {
		var locks []int
		for frame := range m.Holder {
			if d.N(3) == 0 {
				locks = append(locks, frame)
			}
		}
		have, most := 0, d.N(len(locks)+1)
		for have < most && m.Holder[locks[have]] < 0 {
			have++
		}
		switch stage := d.N(4); {
		case stage == 0 || len(locks) == 0:
		case stage == 1 && have > 0:
			put(&m, core, cores.Exit, have, locks...)
		default:
			put(&m, core, cores.Entry, have, locks...)
		}
	}
	if err := cores.Check(m); err != nil {
		t.Fatalf("this machine to begin with: %v", err)
	}
	return m
}

// Cores never stop each other for good: wherever they are, one of them can do something, and if they take turns all of them come to their users again.
func TestNeverStopped(t *testing.T) {
	d := sample.Die(43)
	waits, rounds := 0, 0
	for range 120 {
		m := scattered(t, &d)
		for range 30 {
			if !isFree(t, m) {
				t.Fatalf("none of the cores %v can do anything", m.Cores)
			}
			then, _, what := moves(t, m, d.N(len(m.Cores)))
			if m = then; what == "waits" {
				waits++
			}
		}
		rounds = max(rounds, ends(t, m, d.N(2) == 0))
	}
	if waits < 100 || rounds < 20 {
		t.Errorf("%d waits, at most %d rounds: these machines ask too little", waits, rounds)
	}
}

// meeting is the text of a world in which two tasks, on two cores, know a door.
const meeting = `world 7 2 0
clay 1 1 6
make space 1 1 2
make table 1 1 3
make page 1 1 4
make task 1 2 5
make door 1 1 7
enter 1 0 2 0
enter 1 0 3 0
code 3
sys 2
jump 2
sys 3
sys 4
jump 8
sys 10
jump 12
.
equip 4 0 1 - 0 1 0
equip 5 0 1 - 1 1 0
start 4
start 5
`

// meet is a machine of it; the tasks begin at these addresses, with the door's key in register 1.
func meet(t *testing.T, pc4, pc5 int) cores.Machine {
	t.Helper()
	w, err := boot.Read(meeting)
	if err != nil {
		t.Fatal(err)
	}
	w.Tasks[4].Pc, w.Tasks[4].Regs = pc4, [8]int{9, 7, 77}
	w.Tasks[5].Pc, w.Tasks[5].Regs = pc5, [8]int{9, 7, 55}
	m, err := cores.New(w)
	if err != nil {
		t.Fatal(err)
	}
	return m
}

// Of two cores that meet at a door all interleavings, up to many micro-steps: no lock is had twice, the world is that of whole steps, and one of both can always do something.
func TestAllInterleavings(t *testing.T) {
	isAnswered := func(w api.World) bool {
		return w.Tasks[4].Regs[2] == 77 && w.Tasks[4].State == api.Ready && w.Tasks[5].Regs[2] == 77
	}
	isDropped := func(w api.World) bool { return w.Kinds[6] == api.None }
	for _, c := range []struct {
		why      string
		pc4, pc5 int
		comes    func(w api.World) bool
	}{
		{"one calls, one takes and answers", 0, 4, isAnswered},
		{"one drops the key, one takes", 10, 4, isDropped},
		{"both drop the key", 10, 10, isDropped},
	} {
		machines, came, stays := interleave(t, meet(t, c.pc4, c.pc5), 30, c.comes)
		if machines < 300 || came < 20 || stays < 20 {
			t.Errorf("%s: %d machines, it comes to that in %d, %d waits: this asks too little", c.why, machines, came, stays)
		}
	}
}

// interleave goes through all machines up to so many micro-steps: how many there are, in how many it comes to something, and how often a core waits.
func interleave(t *testing.T, m cores.Machine, many int, comes func(w api.World) bool) (machines, came, stays int) {
	t.Helper()
	layer := map[string]cores.Machine{"": m}
	for range many {
		next := map[string]cores.Machine{}
		for _, m := range layer {
			machines++
			if comes(m.World) {
				came++
			}
			waits := 0
			for core := range m.Cores {
				then, went, err := cores.Step(m, core)
				if err != nil || cores.Check(then) != nil {
					t.Fatal(err, cores.Check(then))
				}
				holders(t, then)
				if isWhole(t, m, then, core, went); same(then, m) {
					waits++
				}
				next[digest(then)] = then
			}
			if stays += waits; waits == len(m.Cores) {
				t.Fatalf("none of the cores %v can do anything", m.Cores)
			}
		}
		layer = next
	}
	return machines, came, stays
}

// digest tells machines apart.
func digest(m cores.Machine) string {
	w := m.World
	return fmt.Sprint(m.Cores, m.Holder, w.Time, w.Tasks, w.Cores, w.Lines, w.Bits, w.Ready, w.Tlbs, w.Slots)
}

// isWhole: is the world behind a micro-step that behind a whole step of this core, or as it was?
func isWhole(t *testing.T, m, then cores.Machine, core int, went bool) {
	t.Helper()
	want := m.World
	if went {
		next, err := kernel.Step(m.World, core)
		if err != nil {
			t.Fatal(err)
		}
		want = next
	}
	if !sample.Same(then.World, want) {
		t.Fatalf("core %d: %s", core, sample.Differences(then.World, want, fmt.Sprint))
	}
}
