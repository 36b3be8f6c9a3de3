package cores_test

import (
	"fmt"
	"slices"
	"testing"

	"keyhold/api"
	"keyhold/cores"
	"keyhold/kernel"
	"keyhold/sample"
)

// asking: task runs, on core 0, is of the domain whose turn it is, finds slots 0 to 15 at these addresses and slots 16 to 31 at addresses 32 to 47, has a number in register 1, and these words are what it does next.
func asking(r1 int, words ...int) sample.Change {
	return func(w *api.World) {
		r := &w.Tasks[runs]
		r.Node, r.Dom = root, 1
		r.Regs[1] = r1
		copy(w.Ram[16*page:], words)
	}
}

// sys asks for a call.
func sys(r1, n int) sample.Change { return asking(r1, 0x0e00, n&65535) }

// wants: a core at a user wants these locks: it is at Entry then, without any of them, and nothing else changes; or it wants none, and the world goes on.
func wants(t *testing.T, why string, core int, locks []int, first ...sample.Change) {
	t.Helper()
	m, want := machine(t, first...), machine(t, first...)
	if len(locks) > 0 {
		put(&want, core, cores.Entry, 0, locks...)
		done(t, why, m, steps(core), want, "false")
		return
	}
	next, err := kernel.Step(m.World, core)
	if err != nil {
		t.Fatal(err)
	}
	want.World = next
	done(t, why, m, steps(core), want, "true")
}

// all frames of a full world.
func all() []int {
	var l []int
	for n := range 24 {
		l = append(l, n)
	}
	return l
}

// M2: calls 7 to 17 want all frames, whatever the registers are; all others, also those that are none, want what is touched.
func TestWantsCalls(t *testing.T) {
	for _, r1 := range []int{15, 0, 300} {
		for n := 7; n <= 17; n++ {
			wants(t, fmt.Sprint("sys ", n), 0, all(), sys(r1, n))
		}
	}
	for _, n := range []int{0, 1, 2, 3, 4, 5, 6, 18, 19, 263, 32767, -1, -7, -17, -32768} {
		why := fmt.Sprint("sys ", n)
		wants(t, why+" at a door", 0, []int{root, runs, sends, calls, asks, door}, sys(15, n))
		wants(t, why+" at a desk", 0, []int{node, runs, waits, asks, desk}, sys(32, n))
		wants(t, why+" at a bell", 0, []int{node, runs, asks, listens, bell}, sys(33, n))
		wants(t, why+" at a bell that is rung", 0, []int{node, runs, asks, rung}, sys(34, n))
	}
}

// M2: the frame of the slot at register 1 is wanted, if there is one; of what its key opens only a door or a bell.
func TestWantsSlots(t *testing.T) {
	for at := range 16 {
		if at == 15 {
			continue
		}
		wants(t, fmt.Sprint("slot ", at), 0, []int{root, runs, asks}, sys(at, 1))
	}
	for _, at := range []int{0, 2, 3, 35, 38, 40, 47} {
		wants(t, fmt.Sprint("at ", at), 0, []int{at / 32, runs, asks}, sys(at, 1))
	}
	for _, at := range []int{36, 37} {
		wants(t, "a door's other key", 0, []int{node, runs, sends, calls, asks, door}, sys(at, 0))
	}
	wants(t, "a bell's other key", 0, []int{node, runs, asks, listens, bell}, sys(39, 4))
	for _, at := range []int{48, 255, 256, 300, 65535} {
		wants(t, fmt.Sprint("no slot ", at), 0, []int{runs, asks}, sys(at, 1))
	}
	wants(t, "the way leads through no node", 0, []int{runs, asks}, sys(16, 1))
	wants(t, "no node", 0, []int{runs, asks}, sys(15, 1), func(w *api.World) { w.Tasks[runs].Node = -1 })
	wants(t, "another node", 0, []int{node, runs, asks, listens, bell}, sys(1, 1), func(w *api.World) { w.Tasks[runs].Node = node })
	wants(t, "no right to it", 0, []int{node, runs, sends, calls, asks, door}, sys(37, 1), func(w *api.World) { w.Slots[21].Key.Rights = 0 })
}

// M2: other registers are not asked.
func TestWantsRegisterOne(t *testing.T) {
	for n := range 7 {
		wants(t, "other registers", 0, []int{runs, asks}, sys(300, n), func(w *api.World) {
			for r := range 8 {
				if r != 1 {
					w.Tasks[runs].Regs[r] = 15
				}
			}
		})
	}
}

// M2: whom the task owes is wanted, and nobody else who is owed.
func TestWantsOwed(t *testing.T) {
	nobody := func(w *api.World) { w.Tasks[runs].Owes, w.Tasks[asks].State = -1, api.Still }
	wants(t, "nobody owed", 0, []int{runs}, sys(300, 4), nobody)
	wants(t, "nobody owed, at a door", 0, []int{root, runs, sends, calls, door}, sys(15, 1), nobody)
	other := func(w *api.World) { w.Tasks[runs].Owes, w.Tasks[next].Owes = -1, asks }
	wants(t, "another one owes", 0, []int{root, runs, sends, calls, door}, sys(15, 1), other)
	empty := func(w *api.World) {
		w.Lines[door] = nil
		for _, t := range []int{sends, calls} {
			w.Tasks[t].State, w.Tasks[t].At = api.Still, -1
		}
	}
	wants(t, "nobody at the door", 0, []int{root, runs, asks, door}, sys(15, 1), empty)
	behind := func(w *api.World) {
		w.Lines[desk] = []int{waits, still, listens}
		w.Lines[bell] = nil
		for _, t := range []int{still, listens} {
			w.Tasks[t].State, w.Tasks[t].At = api.Waiting, desk
		}
	}
	wants(t, "three at the desk", 0, []int{node, runs, waits, asks, listens, still, desk}, sys(32, 1), behind)
	turned := func(w *api.World) { slices.Reverse(w.Lines[door]) }
	wants(t, "rising, however they stand", 0, []int{root, runs, sends, calls, asks, door}, sys(15, 1), turned)
}

// M2: what is no `sys` wants none, nor does what can't be loaded.
func TestWantsNone(t *testing.T) {
	for op := range 16 {
		if op != api.Sys {
			wants(t, fmt.Sprint("instruction ", op), 0, nil, asking(15, op<<8, 0))
			wants(t, fmt.Sprint("instruction ", op), 0, nil, asking(15, op<<8+0x12, 7))
		}
	}
	wants(t, "sys with a register", 0, nil, asking(15, 0x0e10, 1))
	wants(t, "sys with another register", 0, nil, asking(15, 0x0e01, 1))
	wants(t, "sys with more", 0, nil, asking(15, 0x1e00, 1))
	wants(t, "no space", 0, nil, sys(15, 1), func(w *api.World) { w.Tasks[runs].Space = -1 })
	for _, pc := range []int{31, 32, 256, 4095, 4096, 65534, 65535} {
		wants(t, fmt.Sprint("not told at ", pc), 0, nil, sys(15, 7), func(w *api.World) {
			w.Tasks[runs].Pc = pc
			w.Ram[16*page2+15] = 0x0e00
		})
	}
}

// M2: the two words are those at Pc and behind it, modulo 65536, by the tables, whatever the core remembers.
func TestWantsLoads(t *testing.T) {
	want := []int{root, runs, sends, calls, asks, door}
	at := func(pc int, more sample.Change) sample.Change {
		return func(w *api.World) { w.Tasks[runs].Pc = pc; more(w) }
	}
	nothing := func(w *api.World) {}
	wants(t, "at 6", 0, want, asking(15, 0, 0, 0, 0, 0, 0, 0x0e00, 1), at(6, nothing))
	wants(t, "at 5", 0, want, asking(15, 0, 0, 0, 0, 0, 0x0e00, 1), at(5, nothing))
	wants(t, "on two pages", 0, want, asking(15), at(15, func(w *api.World) { w.Ram[16*page+15], w.Ram[16*page2] = 0x0e00, 1 }))
	wants(t, "on two pages, the second not told", 0, nil, asking(15), at(15, func(w *api.World) {
		w.Ram[16*page+15], w.Ram[16*page2] = 0x0e00, 1
		w.Ram[16*table+1], w.Tlbs = 0, make([][]api.Entry, 2)
	}))
	wants(t, "in the last word of a space", 0, nil, asking(15), at(4095, func(w *api.World) {
		w.Ram[16*space+15], w.Ram[16*table+15], w.Ram[16*page+15] = 0x8003, 0x8004, 0x0e00
	}))
	wants(t, "in the last words of a space", 0, want, asking(15), at(4094, func(w *api.World) {
		w.Ram[16*space+15], w.Ram[16*table+15] = 0x8003, 0x8004
		w.Ram[16*page+14], w.Ram[16*page+15] = 0x0e00, 1
	}))
	wants(t, "at 65535 and 0", 0, nil, sys(15, 1), at(65535, func(w *api.World) { w.Ram[16*page] = 1 }))
	wants(t, "nothing is remembered", 0, want, sys(15, 1), func(w *api.World) { w.Tlbs = make([][]api.Entry, 2) })
	wants(t, "other pages are remembered", 0, want, sys(15, 1), func(w *api.World) {
		w.Tlbs[0] = w.Tlbs[0][1:]
		for n := range 3 {
			w.Ram[16*table+4+n] = 0x8005
			w.Tlbs[0] = append(w.Tlbs[0], api.Entry{Space: space, Page: 4 + n, Frame: page2})
		}
	})
}

// M2: who would be on the core when it settles is asked; the machine's world does not settle.
func TestWantsSettled(t *testing.T) {
	wants(t, "another domain's turn", 0, nil, sys(15, 1), func(w *api.World) { w.Tasks[runs].Dom = 0 })
	wants(t, "its turn again", 0, []int{root, runs, sends, calls, asks, door}, sys(15, 1), func(w *api.World) { w.Tasks[runs].Dom, w.Time = 0, 8 })
	wants(t, "nobody", 1, nil, sys(15, 1))
	comes := func(dom int) sample.Change {
		return func(w *api.World) {
			r := &w.Tasks[next]
			r.Pc, r.Dom, r.Node, r.Regs[1] = 0, dom, root, 32
		}
	}
	wants(t, "the next one", 1, []int{node, next, waits, desk}, sys(15, 1), comes(1))
	wants(t, "the next one, whose turn it is not", 1, nil, sys(15, 1), comes(0))
	wants(t, "the next one of the turn", 0, []int{node, next, waits, desk}, sys(15, 1), comes(1), func(w *api.World) {
		w.Tasks[runs].Dom, w.Tasks[next].Core = 0, 0
		w.Ready[1*4+2], w.Ready[2] = nil, []int{next}
	})
	wants(t, "who is there stays", 0, []int{root, runs, sends, calls, asks, door}, sys(15, 1), comes(1), func(w *api.World) {
		w.Tasks[next].Core, w.Tasks[next].Prio = 0, 3
		w.Ready[1*4+2], w.Ready[3] = nil, []int{next}
	})
}
