package kernel_test

import (
	"fmt"
	"slices"
	"testing"

	"keyhold/api"
	"keyhold/clay"
	"keyhold/cpu"
	"keyhold/kernel"
	"keyhold/mail"
	"keyhold/mmu"
	"keyhold/sample"
	"keyhold/sched"
	"keyhold/slots"
	"keyhold/tree"
	"keyhold/world"
)

// asker: a task that asks in a world, told once more, row by row of the table.
type asker struct {
	w api.World // memory of its own
	t int
}

func (a *asker) reg(n int) int { return a.w.Tasks[a.t].Regs[n] }

func (a *asker) get(r, kind, rights int) (int, int, error) {
	k, err := slots.Get(a.w, a.w.Tasks[a.t].Node, a.reg(r), kind, rights)
	return k.Base, k.Badge, err
}

func (a *asker) find(r int) (int, error) { return slots.Find(a.w, a.w.Tasks[a.t].Node, a.reg(r)) }

// mailed: rows 0 to 6.
func (a *asker) mailed(n int) (api.World, error) {
	kind, rights := api.Door, []int{0, 2, 6, 1, 0, 2, 1}[n]
	if n >= 5 {
		kind = api.Bell
	}
	at, badge, err := 0, 0, error(nil)
	if n != 0 && n != 4 {
		at, badge, err = a.get(1, kind, rights)
	}
	if err != nil {
		return a.w, err
	}
	switch n {
	case 0:
		r := a.w.Tasks[a.t]
		a.w.Cores[r.Core] = -1
		a.w.Ready[4*r.Core+r.Prio] = append(a.w.Ready[4*r.Core+r.Prio], a.t)
		return a.w, nil
	case 1, 2:
		return mail.Send(a.w, a.t, at, badge, a.reg(2), n == 2)
	case 3:
		return mail.Take(a.w, a.t, at)
	case 4:
		return mail.Answer(a.w, a.t, a.reg(2))
	case 5:
		if badge == 0 {
			badge = 1
		}
		return mail.Ring(a.w, at, badge)
	}
	return mail.Listen(a.w, a.t, at)
}

// keyed: rows 7 to 11.
func (a *asker) keyed(n int) (api.World, error) {
	from, err := a.find(1)
	if err != nil {
		return a.w, err
	}
	if n >= 10 {
		if n == 10 {
			return tree.Drop(a.w, from)
		}
		return tree.Revoke(a.w, from)
	}
	to, err := a.find(2)
	if err != nil {
		return a.w, err
	}
	switch n {
	case 7:
		return clay.Make(a.w, from, a.reg(3), a.reg(4), to)
	case 8:
		return tree.Copy(a.w, from, to, a.reg(3), a.reg(4))
	}
	return tree.Move(a.w, from, to)
}

// mapped: rows 12 and 13, by the words of the tables as they are.
func (a *asker) mapped(n int) (api.World, error) {
	in, _, err := a.get(2, api.Space, 2)
	if err != nil {
		return a.w, err
	}
	number := a.reg(3)
	if number > 255 {
		return a.w, api.ErrRange
	}
	upper := &a.w.Ram[16*in+number/16]
	if n == 12 {
		if of, _, err := a.get(1, api.Table, 2); err == nil {
			if *upper != 0 {
				return a.w, api.ErrTwice
			}
			*upper = 0x8000 + of
			return a.w, nil
		}
	}
	of, write := 0, 0
	if n == 12 {
		if of, _, err = a.get(1, api.Page, 1); err != nil {
			return a.w, err
		}
		if _, _, err := a.get(1, api.Page, 2); err == nil {
			write = 0x4000
		}
	}
	if *upper == 0 {
		return a.w, api.ErrMap
	}
	lower := &a.w.Ram[16*(*upper-0x8000)+number%16]
	if n == 12 && *lower != 0 {
		return a.w, api.ErrTwice
	}
	if n == 12 {
		*lower = 0x8000 + write + of
		return a.w, nil
	}
	if *lower == 0 {
		return a.w, api.ErrMap
	}
	*lower = 0
	for core, known := range a.w.Tlbs {
		a.w.Tlbs[core] = nil
		for _, e := range known {
			if _, _, err := mmu.Walk(a.w.Ram, e.Space, 16*e.Page); err == nil {
				a.w.Tlbs[core] = append(a.w.Tlbs[core], e)
			}
		}
	}
	return a.w, nil
}

// ordered: rows 14 to 17.
func (a *asker) ordered(n int) (api.World, error) {
	to, _, err := a.get(1, api.Task, 2)
	if err != nil {
		return a.w, err
	}
	switch n {
	case 15:
		return sched.Start(a.w, to)
	case 16:
		return sched.Stop(a.w, to)
	case 17:
		if a.reg(2) > a.w.Tasks[a.t].Prio {
			return a.w, api.ErrRight
		}
		return sched.Rank(a.w, to, a.reg(2))
	}
	if a.w.Tasks[to].State != api.Still {
		return a.w, api.ErrBusy
	}
	has := [3]int{-1, -1, -1}
	for i, kind := range []int{api.Node, api.Space, api.Door} {
		if i == 2 && a.reg(4) == 65535 {
			break
		}
		if has[i], _, err = a.get(2+i, kind, []int{4, 4, 6}[i]); err != nil {
			return a.w, err
		}
	}
	r := &a.w.Tasks[to]
	r.Node, r.Space, r.Helper, r.Pc, r.Dom = has[0], has[1], has[2], a.reg(5), a.w.Tasks[a.t].Dom
	return a.w, nil
}

// retold is the world behind what a task asks for, and what it is told.
func retold(w api.World, t, n int) (api.World, api.Errno) {
	own, _ := sample.Roomy(w)
	a := &asker{own, t}
	got, err := a.w, error(api.ErrCall)
	switch {
	case n >= 0 && n <= 6:
		got, err = a.mailed(n)
	case n >= 7 && n <= 11:
		got, err = a.keyed(n)
	case n >= 12 && n <= 13:
		got, err = a.mapped(n)
	case n >= 14 && n <= 17:
		got, err = a.ordered(n)
	}
	told, _ := api.Tell(err)
	if err != nil {
		got, _ = sample.Roomy(w)
	}
	if got.Kinds[t] == api.Task {
		got.Tasks[t].Regs[0] = int(told)
	}
	return got, told
}

// walker: words by the tables alone; which of them were told, and how, is noted.
type walker struct {
	w     *api.World
	space int
	told  []int
	write []bool
}

func (b *walker) at(at int, write bool) *int {
	to, may, err := mmu.Walk(b.w.Ram, b.space, at)
	if err != nil || write && !may {
		return nil
	}
	b.told, b.write = append(b.told, at), append(b.write, write)
	return &b.w.Ram[16*to+at%16]
}

func (b *walker) Load(at int) (int, bool) {
	v := b.at(at, false)
	if v == nil {
		return 0, false
	}
	return *v, true
}

func (b *walker) Store(at, v int) bool {
	to := b.at(at, true)
	if to != nil {
		*to = v
	}
	return to != nil
}

// stepped is the world behind a step of a core, told once more; and what came of it.
func stepped(t *testing.T, w api.World, core int) (api.World, string) {
	t.Helper()
	w, who, err := sched.Pick(w, core)
	if err != nil {
		t.Fatal(err)
	}
	if w.Time++; who < 0 {
		return w, "nobody"
	}
	if turn := w.Doms[(w.Time-1)/4%len(w.Doms)]; w.Tasks[who].Dom != turn {
		t.Fatalf("task %d runs in the turn of domain %d", who, turn)
	}
	bus := &walker{w: &w, space: w.Tasks[who].Space}
	r, event, n := cpu.Step(w.Tasks[who], bus)
	w.Tasks[who] = r
	for i, at := range bus.told {
		if _, w.Tlbs[core], err = mmu.Look(w.Ram, w.Tlbs[core], r.Space, at, bus.write[i]); err != nil {
			t.Fatal(err)
		}
	}
	switch {
	case event == cpu.Asked:
		got, told := retold(w, who, n)
		return got, fmt.Sprint(n, " told ", int(told))
	case event == cpu.Failed && r.Helper >= 0:
		w, err = mail.Send(w, who, r.Helper, 0, (n+65536)%65536, true)
		return w, "helped"
	case event == cpu.Failed:
		w, err = sched.Stop(w, who)
		return w, "failed"
	case event == cpu.Ended:
		w, err = sched.Stop(w, who)
		return w, "ended"
	}
	return w, "went"
}

// one of several.
func one(d *sample.Die, of ...int) int { return of[d.N(len(of))] }

// instruction: two words, most of them of what asks for something.
func instruction(d *sample.Die) []int {
	switch d.N(14) {
	case 0:
		return []int{0x0100 + 16*d.N(8), one(d, d.N(16), 32+d.N(16), d.N(65536))}
	case 1:
		return []int{0x0b00 + 16*d.N(8) + 7, one(d, 16, 32) + d.N(32)}
	case 2:
		return []int{0x0a00 + 16*d.N(8) + 7, d.N(64)}
	case 3:
		return []int{one(d, 0x0000, 0x0f00, 0x0c00), one(d, 0, 8, d.N(64))}
	case 4:
		return []int{0x0000, 0}
	}
	return []int{0x0e00, one(d, d.N(18), d.N(18), d.N(18), d.N(18), 18, 65535)}
}

// varied is a sound world of tasks with keys, words and tables of whatever kind.
func varied(t *testing.T, d *sample.Die) api.World {
	t.Helper()
	w := sample.Calm()
	w.Doms = []int{d.N(2), d.N(2), d.N(2)}
	w.Time = d.N(20)
	for n := range 14 {
		w.Ram[16*table+2+n] = one(d, 0, 0, 0x8004, 0x8005, 0xc005)
	}
	w.Ram[16*space+1+d.N(15)] = 0x8003
	for _, frame := range []int{page, page2} {
		w.Ram = slices.Concat(w.Ram[:16*frame], slices.Repeat(instruction(d), 8), w.Ram[16*frame+16:])
		for n := range 7 {
			copy(w.Ram[16*frame+2*n:], instruction(d))
		}
	}
	w.Bits[rung], w.Bits[bell] = one(d, 0, 5), one(d, 0, 0, 9)
	do := func(next api.World, err error) {
		if err == nil {
			w = next
		}
	}
	for n := range 4 {
		do(tree.Copy(w, one(d, d.N(24), 15+d.N(4)), 24+n, d.N(8), one(d, 0, 3)))
	}
	do(clay.Make(w, 1, one(d, api.Table, api.Space, api.Bell), 1, 31))
	for task := runs; task <= still; task++ {
		r := &w.Tasks[task]
		r.Node, r.Space, r.Helper = one(d, root, root, root, root, node, -1), one(d, space, space, space, space, space, -1), one(d, -1, door, desk)
		r.Core, r.Prio, r.Dom, r.Pc = d.N(2), d.N(4), one(d, w.Doms[0], d.N(2)), 2*d.N(16)
		r.Regs[7] = one(d, 0, 0, 0, 4090, 65530)
		if d.N(5) > 0 && task != asks {
			do(sched.Start(w, task))
		}
	}
	if d.N(3) > 0 {
		sample.Ask(&w, asks, runs+d.N(5))
	}
	if err := world.Check(w); err != nil {
		t.Fatalf("this world to begin with is not sound: %v", err)
	}
	return w
}

// arm gives a task registers that are often addresses of keys and numbers that fit what it may ask for by n.
func arm(d *sample.Die, w *api.World, task, n int) {
	r := &w.Tasks[task]
	for i := 1; i <= 5; i++ {
		r.Regs[i] = one(d, d.N(16), d.N(16), 32+d.N(16), 32+d.N(16), d.N(300), 65535)
	}
	if d.N(4) == 0 {
		return
	}
	switch n {
	case 1, 2, 3:
		r.Regs[1] = one(d, 15, 32, 36, 37, 40+d.N(4))
	case 5, 6:
		r.Regs[1] = one(d, 33, 34, 39, 40+d.N(4))
	case 7:
		r.Regs[1], r.Regs[2], r.Regs[3], r.Regs[4] = one(d, 1, 35), 44+d.N(4), api.Page+d.N(7), 1+d.N(3)
	case 8:
		r.Regs[2], r.Regs[3], r.Regs[4] = 44+d.N(3), d.N(8), one(d, 0, 0, 7)
	case 9:
		r.Regs[2] = 44 + d.N(4)
	case 12, 13:
		r.Regs[1], r.Regs[2], r.Regs[3] = one(d, 4, 4, 5, 6, 38, 47), one(d, 3, 3, 3, 47), one(d, d.N(16), d.N(256))
	case 14:
		r.Regs[1], r.Regs[2], r.Regs[3], r.Regs[4] = 7+d.N(8), one(d, 0, 2), 3, one(d, 15, 32, 36, 65535)
	default:
		r.Regs[1], r.Regs[2] = 7+d.N(8), d.N(5)
	}
}

// noMore: no key has a right that none to the same thing had before, unless the thing is new.
func noMore(before, now api.World) bool {
	for _, s := range now.Slots {
		k := s.Key
		old := slices.ContainsFunc(before.Slots, func(b api.Slot) bool { return b.Key.Kind == k.Kind && b.Key.Base == k.Base })
		fits := slices.ContainsFunc(before.Slots, func(b api.Slot) bool {
			return b.Key.Kind == k.Kind && b.Key.Base == k.Base && k.Rights&^b.Key.Rights == 0
		})
		if k.Kind > api.Clay && old && !fits {
			return false
		}
	}
	return true
}

// goes: a call makes the world that is wanted, which is sound, in which no key has more rights; what was handed in stays.
func goes(t *testing.T, why string, w api.World, do call, want api.World) api.World {
	t.Helper()
	roomy, whole := sample.Roomy(w)
	_, before := sample.Roomy(w)
	got, err := do(roomy)
	if err != nil {
		t.Fatalf("%s: %v", why, err)
	}
	if !sample.Same(got, want) {
		t.Fatalf("%s: %s", why, sample.Differences(got, want, fmt.Sprint))
	}
	if !sample.Same(whole, before) {
		t.Fatalf("%s: what was handed in is written into", why)
	}
	if err := world.Check(got); err != nil {
		t.Fatalf("%s: no longer sound: %v", why, err)
	}
	if !noMore(w, got) {
		t.Fatalf("%s: a key has a right more", why)
	}
	return got
}

// K1, K2, in many worlds: what comes is what the chapter tells, told once more; it is sound; what is refused changes register 0 alone.
func TestWild(t *testing.T) {
	d := sample.Die(31)
	count := map[string]int{}
	for range 300 {
		w := varied(t, &d)
		for range 12 {
			core := d.N(2)
			for range 4 {
				who, n := w.Cores[core], d.N(20)-1
				if who < 0 {
					break
				}
				arm(&d, &w, who, n)
				want, told := retold(w, who, n)
				count[fmt.Sprint(n, " told ", int(told))]++
				if got := goes(t, fmt.Sprint("Call ", n), w, calling(core, n), want); d.N(4) == 0 {
					w = got
				}
			}
			if _, who, _ := sched.Pick(w, core); who >= 0 {
				arm(&d, &w, who, d.N(18))
			}
			want, what := stepped(t, w, core)
			count[what]++
			w = goes(t, "Step: "+what, w, steps(core), want)
		}
	}
	for _, what := range []string{"nobody", "went", "helped", "failed", "ended", "-1 told 13", "18 told 13"} {
		if count[what] < 20 {
			t.Errorf("%s: %d times: these worlds ask too little", what, count[what])
		}
	}
	for n, errs := range [][]api.Errno{
		{}, {2, 3, 4, 6}, {2, 3, 4, 6}, {2, 3, 4, 6, 7}, {6}, {2, 3, 4, 6}, {2, 3, 4, 6},
		{2, 3, 5, 6, 12}, {2, 3, 4, 6, 12}, {2, 3, 6, 12}, {2, 3, 6}, {2, 3, 6},
		{2, 3, 6, 9, 12}, {2, 3, 6, 9}, {2, 3, 6, 7}, {2, 3, 6, 7}, {2, 3, 6}, {2, 3, 4, 6},
	} {
		for _, e := range append(errs, api.OK) {
			if what := fmt.Sprint(n, " told ", int(e)); count[what] < 3 {
				t.Errorf("%s: %d times: these worlds ask too little", what, count[what])
			}
		}
	}
}

// K1: in many worlds Run is Steps, and the first that has an error is told.
func TestRunWild(t *testing.T) {
	d := sample.Die(32)
	faults := 0
	for range 60 {
		w := varied(t, &d)
		if d.N(3) == 0 {
			w.Time = 1000000 - d.N(12)
		}
		cores := make([]int, d.N(30))
		for n := range cores {
			if cores[n] = d.N(2); d.N(80) == 0 {
				cores[n] = one(&d, -1, 2)
			}
		}
		want, at, bad := w, -1, error(nil)
		for n, core := range cores {
			if want, bad = kernel.Step(want, core); bad != nil {
				at = n
				break
			}
		}
		got, err := kernel.Run(w, cores)
		what, where := api.Tell(err)
		expected, _ := api.Tell(bad)
		if what != expected || where != at {
			t.Fatalf("Run: %v, want %v at %d", err, bad, at)
		}
		if !sample.Same(got, want) {
			t.Fatalf("Run: %s", sample.Differences(got, want, fmt.Sprint))
		}
		if err != nil {
			faults++
		}
	}
	if faults < 5 || faults > 55 {
		t.Errorf("%d faults: these worlds ask too little", faults)
	}
}

// What is remembered makes no difference, but to what is remembered; and the same world goes on the same way each time.
func TestMemoryMakesNoDifference(t *testing.T) {
	d := sample.Die(33)
	for range 60 {
		knows := varied(t, &d)
		forgets := knows
		for range 15 {
			core := d.N(2)
			if _, who, _ := sched.Pick(knows, core); who >= 0 {
				same := d
				arm(&d, &knows, who, core)
				arm(&same, &forgets, who, core)
			}
			a, err := kernel.Step(knows, core)
			if err != nil {
				t.Fatal(err)
			}
			forgets.Tlbs = make([][]api.Entry, 2)
			b, err := kernel.Step(forgets, core)
			if err != nil {
				t.Fatal(err)
			}
			if again, _ := kernel.Step(knows, core); !sample.Same(again, a) {
				t.Fatalf("once more: %s", sample.Differences(again, a, fmt.Sprint))
			}
			knows, forgets = a, b
			a.Tlbs, b.Tlbs = nil, nil
			if !sample.Same(b, a) {
				t.Fatalf("without memory: %s", sample.Differences(b, a, fmt.Sprint))
			}
		}
	}
}
