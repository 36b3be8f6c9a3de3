package parts_test

import (
	"fmt"
	"slices"
	"testing"

	"keyhold/api"
	"keyhold/kernel"
	"keyhold/parts"
	"keyhold/sample"
	"keyhold/sched"
	"keyhold/world"
)

// of are the parts of a world that has to be sound.
func of(t *testing.T, w api.World) []int {
	t.Helper()
	l, err := parts.Of(w)
	if err != nil {
		t.Fatal(err)
	}
	return l
}

// runner is who would be on a core that settled (-1: nobody).
func runner(t *testing.T, w api.World, core int) int {
	t.Helper()
	_, who, err := sched.Pick(w, core)
	if err != nil {
		t.Fatal(err)
	}
	return who
}

// lively is one of the cores, if it can be one that somebody would be on.
func lively(t *testing.T, d *sample.Die, w api.World) int {
	t.Helper()
	core := d.N(len(w.Cores))
	for range 4 {
		if runner(t, w, core) >= 0 {
			break
		}
		core = d.N(len(w.Cores))
	}
	return core
}

// keeps: is each part of a world a piece of one of the world ahead of it, and is nothing changed but frames of who did something? How many frames are.
func keeps(t *testing.T, why string, w, next api.World, who int) int {
	t.Helper()
	before, then := of(t, w), of(t, next)
	for frame, least := range then {
		if before[frame] != before[least] {
			t.Fatalf("%s: frames %d and %d are joined: %v, ahead of that %v", why, least, frame, then, before)
		}
	}
	changed, err := parts.Changed(w, next)
	if err != nil {
		t.Fatal(err)
	}
	for _, frame := range changed {
		if who < 0 || before[frame] != before[who] {
			t.Fatalf("%s: %d, of part %v, changes %v", why, who, before, changed)
		}
	}
	return len(changed)
}

// The whole, 6: a step joins no parts, and changes nothing outside its part; nor does what a task asks for.
func TestOnlyConnectivity(t *testing.T) {
	d := sample.Die(6)
	asked, fell, steps, idle := map[int]int{}, 0, 0, 0
	for range 300 {
		w := wild(t, &d)
		for range 10 {
			core := lively(t, &d, w)
			who := runner(t, w, core)
			next, err := kernel.Step(w, core)
			if err != nil {
				t.Fatal(err)
			}
			if n := keeps(t, "a step", w, next, who); who < 0 || n == 0 {
				idle++
			}
			if !slices.Equal(of(t, w), of(t, next)) {
				fell++
			}
			steps++
			if on := next.Cores[core]; on >= 0 {
				n := d.N(18)
				begin, _ := sample.Roomy(next)
				with := apt(&d, n)
				copy(begin.Tasks[on].Regs[1:], with[:])
				then, err := kernel.Call(begin, core, n)
				if err != nil {
					t.Fatal(err)
				}
				keeps(t, fmt.Sprint("call ", n), begin, then, on)
				if then.Tasks[on].Regs[0] == 0 {
					asked[n]++
				}
			}
			w = next
		}
	}
	if len(asked) < 18 || fell < 20 || idle > steps*2/3 {
		t.Errorf("calls %v, parts fell apart in %d of %d steps, %d were idle: these ask too little", asked, fell, steps, idle)
	}
}

// among puts others' tasks in whatever places ahead of, between and behind those of an isle, whose order stays.
func among(d *sample.Die, l []int, isMine func(t int) bool) []int {
	var all, others []int
	for _, t := range l {
		if isMine(t) {
			all = append(all, t)
		} else {
			others = append(others, t)
		}
	}
	for _, t := range others {
		all = slices.Insert(all, d.N(len(all)+1), t)
	}
	return all
}

// home is a world in which one isle is that of a die, at that time, and has this domain; all else is that of another die, and has domains by it.
func home(t *testing.T, mine, others sample.Die, at, dom int, doms func(d *sample.Die) int) api.World {
	t.Helper()
	w := sample.Hollow(24, 1+mine.N(4), mine.N(3), mine.N(3), mine.N(3))
	w.Time = mine.N(12)
	live(&w, &mine, at, dom)
	for other := 0; other < 24; other += size {
		if other != at && others.N(4) > 0 {
			live(&w, &others, other, doms(&others))
		}
	}
	for n, l := range w.Ready {
		w.Ready[n] = among(&others, l, func(t int) bool { return at <= t && t < at+size })
	}
	if err := world.Check(w); err != nil {
		t.Fatalf("this world to begin with is not sound: %v", err)
	}
	return w
}

// isOwn: has nobody else who may run a domain of those of the isle who may?
func isOwn(w api.World, at int) bool {
	var mine, others [4]bool
	for t, r := range w.Tasks {
		if r.State == api.Ready {
			mine[r.Dom] = mine[r.Dom] || at <= t && t < at+size
			others[r.Dom] = others[r.Dom] || t < at || at+size <= t
		}
	}
	for dom := range mine {
		if mine[dom] && others[dom] {
			return false
		}
	}
	return true
}

// views is what all parts of an isle see, one behind the other.
func views(t *testing.T, w api.World, at int) string {
	t.Helper()
	all := ""
	for frame, least := range of(t, w)[at : at+size] {
		if least < at || least >= at+size {
			t.Fatalf("isle %d is joined with frame %d", at, least)
		}
		if least == at+frame {
			v, err := parts.See(w, least)
			if err != nil {
				t.Fatal(err)
			}
			all += fmt.Sprint(least, v, "\n")
		}
	}
	return all
}

// pace: how two worlds went on by the same script: how many steps there were, in how many of them an isle saw something new, in how many others did something in one world that they didn't in the other.
type pace struct{ steps, news, others int }

// apace: an isle that sees the same in two worlds, does it see the same in both behind each step?
func apace(t *testing.T, d *sample.Die, p *pace, a, b api.World, at int, own func(w api.World, at int) bool) bool {
	t.Helper()
	saw := views(t, a, at)
	if saw != views(t, b, at) {
		t.Fatal("these worlds to begin with are not the same for the isle")
	}
	for range 16 {
		if !own(a, at) || !own(b, at) {
			return true
		}
		core := lively(t, d, []api.World{a, b}[d.N(2)])
		if runner(t, a, core) != runner(t, b, core) {
			p.others++
		}
		nextA, errA := kernel.Step(a, core)
		nextB, errB := kernel.Step(b, core)
		if errA != nil || errB != nil {
			t.Fatal(errA, errB)
		}
		a, b = nextA, nextB
		sees := views(t, a, at)
		if sees != views(t, b, at) {
			return false
		}
		if p.steps++; sees != saw {
			p.news++
		}
		saw = sees
	}
	return true
}

// The whole, 6: what a part sees hangs on nothing outside of it, where its domain is its own.
func TestSeesNothingOutside(t *testing.T) {
	d := sample.Die(66)
	var p pace
	for range 200 {
		at, dom := size*d.N(3), d.N(3)
		mine := sample.Die(d.N(1 << 30))
		foreign := func(d *sample.Die) int { return (dom + 1 + d.N(3)) % 4 }
		a := home(t, mine, sample.Die(d.N(1<<30)), at, dom, foreign)
		b := home(t, mine, sample.Die(d.N(1<<30)), at, dom, foreign)
		if !apace(t, &d, &p, a, b, at, isOwn) {
			t.Fatalf("isle %d of domain %d sees what is outside", at, dom)
		}
	}
	if p.steps < 2500 || p.news < 400 || p.others < 800 {
		t.Errorf("%v: these ask too little", p)
	}
}

// Where its domain is not its own a part may see that others have turns: so what is asked above would find it.
func TestSeesOthersOfItsDomain(t *testing.T) {
	d := sample.Die(67)
	found := 0
	for range 60 {
		at, mine := size*d.N(3), sample.Die(d.N(1<<30))
		shared := func(d *sample.Die) int { return d.N(2) }
		a := home(t, mine, sample.Die(d.N(1<<30)), at, 0, shared)
		b := home(t, mine, sample.Die(d.N(1<<30)), at, 0, shared)
		if !apace(t, &d, &pace{}, a, b, at, func(api.World, int) bool { return true }) {
			found++
		}
	}
	if found < 10 {
		t.Errorf("only %d of 60 see others of their domain: these ask too little", found)
	}
}
