package cores

import (
	"slices"

	"keyhold/api"
	"keyhold/isa"
	"keyhold/mmu"
	"keyhold/plain"
	"keyhold/sched"
	"keyhold/slots"
)

// wants are the frames whose locks a core wants for what it would do next, rising, each once.
func wants(w api.World, core int) []int {
	settled, task, err := sched.Pick(w, core)
	if err != nil || task == plain.None {
		return nil
	}
	n, ok := asks(&settled, core, task)
	if !ok {
		return nil
	}
	if _, all := callsOfAll()[n]; all {
		return frames(&settled)
	}
	locks := touched(&settled, task)
	slices.Sort(locks)
	return locks
}

// callsOfAll are the calls that may reach whatever frame: they make and take back, and tell tasks and tables what they have.
func callsOfAll() map[int]struct{} {
	return map[int]struct{}{
		7:  {}, // make
		8:  {}, // copy
		9:  {}, // move
		10: {}, // drop
		11: {}, // revoke
		12: {}, // enter
		13: {}, // remove
		14: {}, // equip
		15: {}, // start
		16: {}, // stop
		17: {}, // rank
	}
}

// asks: what a task on a core asks for by its next instruction; false: nothing.
func asks(w *api.World, core, task int) (int, bool) {
	r := &w.Tasks[task]
	var code [2]int
	for n := range code {
		at, _, err := mmu.Look(w.Ram, w.Tlbs[core], r.Space, (r.Pc+n)&api.MaxWord, false)
		if err != nil {
			return 0, false
		}
		code[n] = w.Ram[at]
	}
	i, err := isa.Decode(code)
	if err != nil || i.Op != api.Sys {
		return 0, false
	}
	return max(i.Imm, 0), true
}

// frames are all there are.
func frames(w *api.World) []int {
	all := make([]int, len(w.Kinds))
	for n := range all {
		all[n] = n
	}
	return all
}

// touched are the frames that words and rings touch: who asks, whom that owes, where its key is, the door or the bell, and who stands there. (None of them twice: they differ in kind, or, being tasks, in state.)
func touched(w *api.World, task int) []int {
	r := &w.Tasks[task]
	all := []int{task}
	if r.Owes != plain.None {
		all = append(all, r.Owes)
	}
	slot, err := slots.Find(*w, r.Node, r.Regs[1])
	if err != nil {
		return all
	}
	all = append(all, slot/api.Words)
	if k := w.Slots[slot].Key; k.Kind == api.Door || k.Kind == api.Bell {
		all = append(all, k.Base)
		all = append(all, w.Lines[k.Base]...)
	}
	return all
}
