package cores_test

import (
	"fmt"
	"slices"
	"testing"

	"keyhold/api"
	"keyhold/cores"
	"keyhold/kernel"
	"keyhold/mmu"
	"keyhold/sample"
	"keyhold/sched"
)

// slotAt is the slot at an address of a node, told once more (-1: none).
func slotAt(w api.World, in, at int) int {
	if in < 0 || at > 255 {
		return -1
	}
	if at < 16 {
		return 16*in + at
	}
	k := w.Slots[16*in+at/16].Key
	if k.Kind != api.Node {
		return -1
	}
	return 16*k.Base + at%16
}

// touches: does a task that asks for a call that doesn't want all locks want that of a frame?
func touches(w api.World, who, frame int) bool {
	r := w.Tasks[who]
	if frame == who || frame == r.Owes {
		return true
	}
	slot := slotAt(w, r.Node, r.Regs[1])
	if slot < 0 {
		return false
	}
	k := w.Slots[slot].Key
	if (k.Kind == api.Door || k.Kind == api.Bell) && (frame == k.Base || w.Tasks[frame].At == k.Base) {
		return true
	}
	return frame == slot/16
}

// wanted is M2, told once more, by the tables alone, and by what each task tells of itself.
func wanted(t *testing.T, w api.World, core int) []int {
	t.Helper()
	w, who, err := sched.Pick(w, core)
	if err != nil {
		t.Fatal(err)
	}
	if who < 0 {
		return nil
	}
	var code [2]int
	for n := range code {
		at := (w.Tasks[who].Pc + n) % 65536
		to, _, err := mmu.Walk(w.Ram, w.Tasks[who].Space, at)
		if err != nil {
			return nil
		}
		code[n] = w.Ram[16*to+at%16]
	}
	if code[0] != 0x0e00 {
		return nil
	}
	var locks []int
	for frame := range w.Kinds {
		if code[1] >= 7 && code[1] <= 17 || touches(w, who, frame) {
			locks = append(locks, frame)
		}
	}
	return locks
}

// holders is which core has which lock; a lock that two have is told.
func holders(t *testing.T, m cores.Machine) []int {
	t.Helper()
	l := slices.Repeat([]int{-1}, len(m.World.Kinds))
	for core, c := range m.Cores {
		for _, lock := range c.Locks[:c.Have] {
			if l[lock] >= 0 {
				t.Fatalf("cores %d and %d have lock %d", l[lock], core, lock)
			}
			l[lock] = core
		}
	}
	return l
}

// retold is M3, told once more; and what came of it.
func retold(t *testing.T, m cores.Machine, core int) (cores.Machine, string) {
	t.Helper()
	m, _ = roomy(m)
	c, want, what := &m.Cores[core], wanted(t, m.World, core), "does"
	switch {
	case c.Stage == 0 && len(want) > 0:
		*c, what = cores.Core{Stage: 1, Locks: want}, "enters"
	case c.Stage == 1 && c.Have < len(c.Locks) && holders(t, m)[c.Locks[c.Have]] < 0:
		c.Have, what = c.Have+1, "takes"
	case c.Stage == 1 && c.Have < len(c.Locks):
		what = "waits"
	case c.Stage == 1 && !slices.Equal(c.Locks, want):
		c.Stage, what = 2, "gives up"
	case c.Stage == 1:
		c.Stage, what = 2, map[bool]string{true: "does, with all locks", false: "does, with locks"}[len(want) == len(m.World.Kinds)]
	case c.Stage == 2 && c.Have > 1:
		c.Have, what = c.Have-1, "lets go"
	case c.Stage == 2:
		*c, what = cores.Core{}, "is free"
	}
	if what[:2] == "do" {
		m.World = behind(t, m, core)
	}
	m.Holder = holders(t, m)
	return m, what
}

// one of several.
func one(d *sample.Die, of ...int) int { return of[d.N(len(of))] }

// crowd is a sound world of one to four cores and many tasks, which do something or ask for something, most of it at the same doors and bells.
func crowd(d *sample.Die) api.World {
	w := sample.Calm()
	many := 1 + d.N(4)
	w.Cores, w.Ready, w.Tlbs = slices.Repeat([]int{-1}, many), make([][]int, 4*many), make([][]api.Entry, many)
	w.Doms = []int{0, d.N(2)}
	w.Time = d.N(9)
	for n := range 16 {
		code := []int{0x0e00, one(d, d.N(7), d.N(7), d.N(7), d.N(18), one(d, 18, 65535))}
		switch d.N(6) {
		case 0:
			code = []int{0x0110, one(d, 15, 32, 33, 34, d.N(48), 300)}
		case 1:
			code = []int{one(d, 0x0120, 0x0130, 0x0140), one(d, 1, 2, 3, 44, 45)}
		}
		if n == 15 {
			code = []int{one(d, 0x0c00, 0x0c00, 0x0c00, 0x0f00), 0}
		}
		copy(w.Ram[16*page+2*n:], code)
	}
	for task := runs; task <= still; task++ {
		r := &w.Tasks[task]
		r.Node, r.Space, r.Helper = one(d, root, root, root, node, -1), one(d, space, space, space, space, space, -1), one(d, -1, door, desk)
		r.Pc, r.Core = 2*d.N(16), d.N(many)
		r.Regs = [8]int{0, one(d, 15, 32, 33, 34, 37), one(d, 7, 44), d.N(9), d.N(4)}
		switch d.N(8) {
		case 0:
			sample.Stand(&w, task, desk, api.Waiting)
		case 1:
			sample.Stand(&w, task, door, one(d, api.Sending, api.Calling))
		case 2:
			sample.Stand(&w, task, bell, api.Listening)
		default:
			sample.Queue(&w, task, r.Core, d.N(4), d.N(2))
		}
	}
	if r := &w.Tasks[runs]; r.State == api.Ready && w.Tasks[asks].State == api.Waiting {
		w.Lines[desk] = slices.DeleteFunc(w.Lines[desk], func(t int) bool { return t == asks })
		w.Tasks[asks].State, w.Tasks[asks].At, r.Owes = api.Asking, -1, asks
	}
	return w
}

// changed: in which frames do two worlds differ?
func changed(a, b api.World) []int {
	var l []int
	for n := range a.Kinds {
		alike := slices.Equal(a.Ram[16*n:16*n+16], b.Ram[16*n:16*n+16]) && slices.Equal(a.Slots[16*n:16*n+16], b.Slots[16*n:16*n+16]) &&
			a.Kinds[n] == b.Kinds[n] && a.Tasks[n] == b.Tasks[n] && slices.Equal(a.Lines[n], b.Lines[n]) && a.Bits[n] == b.Bits[n]
		if !alike {
			l = append(l, n)
		}
	}
	return l
}

// moves does a micro-step: it is what the chapter tells, what comes is a machine that may be, and what is done with locks is done to what they are of.
func moves(t *testing.T, m cores.Machine, core int) (cores.Machine, bool, string) {
	t.Helper()
	handed, whole := roomy(m)
	_, before := roomy(m)
	got, went, err := cores.Step(handed, core)
	if err != nil {
		t.Fatal(err)
	}
	want, what := retold(t, m, core)
	if !same(got, want) || went != (what[:2] == "do") {
		t.Fatalf("core %d %s: %v; %s", core, what, went, differences(got, want))
	}
	if !same(whole, before) {
		t.Fatalf("core %d %s: what was handed in is written into", core, what)
	}
	if err := cores.Check(got); err != nil || !slices.Equal(got.Holder, holders(t, got)) {
		t.Fatalf("core %d %s: not well: %v", core, what, err)
	}
	if went && what != "does" {
		for _, frame := range changed(m.World, got.World) {
			if !slices.Contains(got.Cores[core].Locks, frame) {
				t.Fatalf("core %d changes frame %d with locks %v", core, frame, got.Cores[core].Locks)
			}
		}
	}
	return got, went, what
}

// M2, M3, in many worlds: each micro-step is what the chapters tell; no two cores have one lock; the world is that of whole steps, one behind the other; and Run is Steps.
func TestWild(t *testing.T) {
	d := sample.Die(41)
	count := map[string]int{}
	for range 120 {
		w := crowd(&d)
		m, err := cores.New(w)
		if err != nil {
			t.Fatal(err)
		}
		first, script, by := m, []int(nil), []int(nil)
		for range 40 + d.N(60) {
			core := d.N(len(m.Cores))
			if d.N(3) == 0 && len(script) > 0 {
				core = script[len(script)-1]
			}
			then, went, what := moves(t, m, core)
			script = append(script, core)
			if m = then; went {
				by = append(by, core)
			}
			count[what]++
		}
		got, did, err := cores.Run(first, script)
		if err != nil || !slices.Equal(did, by) || !same(got, m) {
			t.Fatalf("Run: %v by %v, want %v; %s", err, did, by, differences(got, m))
		}
		whole, err := kernel.Run(w, by)
		if err != nil || !sample.Same(whole, m.World) {
			t.Fatalf("one behind the other: %v, %s", err, sample.Differences(m.World, whole, fmt.Sprint))
		}
	}
	for what, least := range map[string]int{
		"does": 300, "enters": 300, "takes": 1000, "waits": 300, "gives up": 20, "does, with locks": 100, "does, with all locks": 10, "lets go": 500, "is free": 200,
	} {
		if count[what] < least {
			t.Errorf("%s: %d times: these worlds ask too little", what, count[what])
		}
	}
}

// M3: what a micro-step answers hangs on the machine and the core alone.
func TestAgain(t *testing.T) {
	d := sample.Die(42)
	for range 20 {
		m, err := cores.New(crowd(&d))
		if err != nil {
			t.Fatal(err)
		}
		script := make([]int, 60)
		for n := range script {
			script[n] = d.N(len(m.Cores))
		}
		a, byA, _ := cores.Run(m, script)
		b, byB, _ := cores.Run(m, script)
		if !same(a, b) || !slices.Equal(byA, byB) {
			t.Fatal(differences(a, b))
		}
	}
}
