package kernel_test

import (
	"fmt"
	"testing"

	"keyhold/api"
	"keyhold/sample"
)

// K1, C1: who is on the core does one instruction; time is one more; nothing else changes.
func TestStepInstruction(t *testing.T) {
	for why, c := range map[string]struct {
		words  []int
		wanted func(r *api.Running)
	}{
		"set r3 5":       {[]int{0x0130, 5}, func(r *api.Running) { r.Regs[3], r.Pc = 5, 2 }},
		"set r0 -1":      {[]int{0x0100, 65535}, func(r *api.Running) { r.Regs[0], r.Pc = 65535, 2 }},
		"mov r1 r7":      {[]int{0x0217, 0}, func(r *api.Running) { r.Regs[1], r.Pc = 92, 2 }},
		"sub r7 r1":      {[]int{0x0471, 0}, func(r *api.Running) { r.Regs[7], r.Pc = 65530, 2 }},
		"jump 9":         {[]int{0x0c00, 9}, func(r *api.Running) { r.Pc = 9 }},
		"jump -1":        {[]int{0x0c00, 65535}, func(r *api.Running) { r.Pc = 65535 }},
		"zero r1 9":      {[]int{0x0d10, 9}, func(r *api.Running) { r.Pc = 2 }},
		"load r4 r7 -91": {[]int{0x0a47, 65536 - 91}, func(r *api.Running) { r.Regs[4], r.Pc = 65445, 2 }},
	} {
		done(t, why, code(c.words...), steps(0), func(w *api.World) {
			c.wanted(&w.Tasks[runs])
			later(w)
		})
	}
}

// K1, I1: the core settles first: who is of another domain leaves it, and the next one does an instruction.
func TestStepSettles(t *testing.T) {
	words := func(w *api.World) { copy(w.Ram[16*page:], []int{0x0130, 5}) }
	done(t, "nobody's turn", words, steps(0), func(w *api.World) {
		w.Cores[0], w.Ready[0] = -1, []int{runs}
		later(w)
	})
	done(t, "another one's turn", both(words, func(w *api.World) {
		sample.Queue(w, still, 0, 0, 1)
	}), steps(0), func(w *api.World) {
		w.Cores[0], w.Ready[0] = still, []int{runs}
		w.Tasks[still].Regs[3], w.Tasks[still].Pc = 5, 2
		later(w)
	})
	done(t, "one who comes to a core where nobody was", both(words, func(w *api.World) {
		w.Tasks[next].Dom, w.Tasks[next].Pc = 1, 0
	}), steps(1), func(w *api.World) {
		w.Cores[1], w.Ready[6] = next, nil
		w.Tasks[next].Regs[3], w.Tasks[next].Pc = 5, 2
		w.Tlbs[1] = append(w.Tlbs[1], api.Entry{Space: space, Page: 0, Frame: page})
		later(w)
	})
	done(t, "nobody comes", words, steps(1), later)
	for time, dom := range map[int]int{0: 0, 3: 0, 4: 1, 7: 1, 8: 0, 999999: 1} {
		done(t, fmt.Sprint("at time ", time), both(code(0x0130, 5), func(w *api.World) {
			w.Time, w.Tasks[runs].Dom = time, dom
		}), steps(0), func(w *api.World) {
			w.Tasks[runs].Regs[3], w.Tasks[runs].Pc = 5, 2
			later(w)
		})
	}
}

// K1, D3: words are found by the tables of the task's own space, and what is found is remembered by this core alone.
func TestStepRemembers(t *testing.T) {
	first, second := api.Entry{Space: space, Page: 0, Frame: page}, api.Entry{Space: space, Page: 1, Frame: page2, Write: true}
	forgetful := func(w *api.World) { w.Tlbs[0] = nil }
	went := func(w *api.World) {
		w.Tasks[runs].Pc = 2
		later(w)
	}
	done(t, "an instruction's words", both(code(0x0130, 96), forgetful), steps(0), both(went, func(w *api.World) {
		w.Tlbs[0] = []api.Entry{first}
	}))
	done(t, "a word that is loaded", both(code(0x0a47, 65535-91+16), forgetful), steps(0), both(went, func(w *api.World) {
		w.Tasks[runs].Regs[4] = 0
		w.Tlbs[0] = []api.Entry{first, second}
	}))
	done(t, "a word that is stored", both(code(0x0b47, 65535-91+16), forgetful), steps(0), both(went, func(w *api.World) {
		w.Ram[16*page2] = 95
		w.Tlbs[0] = []api.Entry{first, second}
	}))
	done(t, "an instruction over two pages", placed(func(w *api.World) {
		w.Tlbs[0] = []api.Entry{{Space: space, Page: 1, Frame: page2, Write: true}}
		w.Tasks[runs].Pc = 15
		w.Ram[16*page+15], w.Ram[16*page2] = 0x0130, 5
	}), steps(0), func(w *api.World) {
		w.Tasks[runs].Regs[3], w.Tasks[runs].Pc = 5, 17
		w.Tlbs[0] = []api.Entry{second, first}
		later(w)
	})
	done(t, "what is remembered stays in its order", both(code(0x0a47, 65535-91+16), func(w *api.World) {
		w.Tlbs[0] = []api.Entry{second, first}
	}), steps(0), both(went, func(w *api.World) { w.Tasks[runs].Regs[4] = 0 }))
	done(t, "by four others the oldest is forgotten", both(code(0x0130, 96), func(w *api.World) {
		w.Tlbs[0] = nil
		for n := range 4 {
			w.Ram[16*table+4+n] = 0x8005
			w.Tlbs[0] = append(w.Tlbs[0], api.Entry{Space: space, Page: 4 + n, Frame: page2})
		}
	}), steps(0), both(went, func(w *api.World) { w.Tlbs[0] = append(w.Tlbs[0][1:], first) }))
}

// K1: a store writes a word of the page, and nothing else; the next instruction sees it.
func TestStepStores(t *testing.T) {
	stores := both(code(0x0b47, 65535-91+16+3), func(w *api.World) { w.Ram[16*page2+3] = 4711 })
	done(t, "store r4 at 19", stores, steps(0), func(w *api.World) {
		w.Ram[16*page2+3], w.Tasks[runs].Pc = 95, 2
		later(w)
	})
	done(t, "an instruction that writes its successor", placed(func(w *api.World) {
		w.Time, w.Tasks[runs].Pc, w.Tasks[runs].Regs = 4, 16, [8]int{0x0160, 0, 0, 0, 0, 0, 7, 0}
		copy(w.Ram[16*page2:], []int{0x0b01, 18}) // store r0 r1 18: set r6 0
	}), runsBy(0, 0), func(w *api.World) {
		w.Ram[16*page2+2], w.Tasks[runs].Pc, w.Tasks[runs].Regs[6] = 0x0160, 20, 0
		w.Time = 6
	})
}

// fails are instructions of task runs that fail, and at which address (as a word). What the core remembers then is told, too.
func fails() map[string]struct {
	first change
	at    int
	tlb   []api.Entry
} {
	first, second := api.Entry{Space: space, Page: 0, Frame: page}, api.Entry{Space: space, Page: 1, Frame: page2, Write: true}
	both0 := []api.Entry{first, second}
	pc := func(n int) change { return placed(func(w *api.World) { w.Tasks[runs].Pc = n }) }
	none := func(w *api.World) { w.Tlbs[0] = nil }
	type failing = struct {
		first change
		at    int
		tlb   []api.Entry
	}
	return map[string]failing{
		"no instruction":                  {code(0x0f00, 0), 65535, both0},
		"no register":                     {code(0x0180, 0), 65535, both0},
		"no instruction, remembered":      {both(code(0xffff, 0), none), 65535, []api.Entry{first}},
		"a page that is not told":         {pc(32), 32, both0},
		"the second word of two":          {both(pc(31), none), 32, []api.Entry{second}},
		"a table that is not told":        {pc(256), 256, both0},
		"the last address of a space":     {pc(4095), 4095, both0},
		"behind the last one":             {pc(4096), 4096, both0},
		"the last word":                   {pc(65535), 65535, both0},
		"load where nothing is":           {code(0x0a47, 200), 292, both0},
		"load behind the last address":    {code(0x0a47, 4004), 4096, both0},
		"load ahead of the first one":     {code(0x0a47, 65536-93), 65535, both0},
		"load, remembered":                {both(code(0x0a47, 200), none), 292, []api.Entry{first}},
		"store where nothing is":          {code(0x0b47, 200), 292, both0},
		"store where it may not":          {code(0x0b47, 65536-92+3), 3, both0},
		"store where it may not, told":    {both(code(0x0b47, 65536-92+35), func(w *api.World) { w.Ram[16*table+2] = 0x8005 }), 35, both0},
		"without a space":                 {both(code(0x0130, 5), func(w *api.World) { w.Tasks[runs].Space = -1 }), 0, both0},
		"without a space, where it stood": {both(pc(7), func(w *api.World) { w.Tasks[runs].Space = -1 }), 7, both0},
	}
}

// K1, I2: who fails without Helper is stopped; all else of it stays.
func TestStepFails(t *testing.T) {
	for why, c := range fails() {
		done(t, why, c.first, steps(0), func(w *api.World) {
			stopped(w)
			w.Tlbs[0] = c.tlb
			later(w)
		})
	}
}

// K1, J2: who fails, with a Helper, calls through that door with badge 0, and the address as its word.
func TestStepFailsWithHelper(t *testing.T) {
	for why, c := range fails() {
		done(t, why+", nobody waits", both(c.first, func(w *api.World) { w.Tasks[runs].Helper = door }), steps(0), func(w *api.World) {
			r := &w.Tasks[runs]
			r.State, r.At, r.Word, r.Badge = api.Calling, door, c.at, 0
			w.Lines[door], w.Cores[0] = []int{sends, calls, runs}, -1
			w.Tlbs[0] = c.tlb
			later(w)
		})
		done(t, why+", someone waits", both(c.first, func(w *api.World) { w.Tasks[runs].Helper = desk }), steps(0), func(w *api.World) {
			w.Tasks[runs].State, w.Cores[0] = api.Asking, -1
			r := &w.Tasks[waits]
			r.State, r.At, r.Owes, r.Regs[1], r.Regs[2] = api.Ready, -1, runs, 0, c.at
			w.Lines[desk], w.Ready[0] = nil, []int{waits}
			w.Tlbs[0] = c.tlb
			later(w)
		})
	}
	done(t, "what it sent before is no longer there", both(code(0x0f00), func(w *api.World) {
		w.Tasks[runs].Helper, w.Tasks[runs].Word, w.Tasks[runs].Badge = door, 5, 6
	}), steps(0), func(w *api.World) {
		r := &w.Tasks[runs]
		r.State, r.At, r.Word, r.Badge = api.Calling, door, 65535, 0
		w.Lines[door], w.Cores[0] = []int{sends, calls, runs}, -1
		later(w)
	})
}

// K1: who is answered goes on where it failed; with what is told there then, it does.
func TestStepGoesOnBehindHelp(t *testing.T) {
	done(t, "a page is entered for it", placed(func(w *api.World) {
		w.Doms = []int{1}
		w.Tasks[runs].Pc, w.Tasks[runs].Helper = 32, desk
		sample.Queue(w, still, 0, 0, 1)
		s := &w.Tasks[waits]
		s.Node, s.Dom, s.Prio = root, 1, 3
		s.Regs = [8]int{3: 2, 5: 77}
		copy(w.Ram[16*page:], []int{0x0150, 6, 0x0110, 6, 0x0120, 3, 0x0130, 2, 0x0e00, 12, 0x0e00, 4}) // set r5 6; set r1 6; set r2 3; set r3 2; sys 12; sys 4; halt
		copy(w.Ram[16*page2:], []int{0x0160, 5})
	}), runsBy(0, 0, 0, 0, 0, 0, 0, 0, 0), func(w *api.World) {
		w.Ram[16*table+2] = 0xc005
		s := &w.Tasks[waits]
		s.State, s.At, s.Pc = api.Still, -1, 12
		s.Regs = [8]int{0, 6, 3, 2, 0, 6, 0, 0}
		r := &w.Tasks[runs]
		r.Regs[1], r.Regs[2], r.Regs[6], r.Pc = 0, 3, 5, 34
		w.Lines[desk] = nil
		w.Tlbs[0] = append(w.Tlbs[0], api.Entry{Space: space, Page: 2, Frame: page2, Write: true})
		w.Time += 9
	})
}

// K1, I2: who ends is stopped, where it is, and calls no Helper.
func TestStepEnds(t *testing.T) {
	for pc, why := range map[int]string{0: "at 0", 5: "at 5", 30: "at 30"} {
		for helper, name := range map[int]string{-1: "", desk: " with a helper"} {
			done(t, why+name, placed(func(w *api.World) {
				w.Tasks[runs].Pc, w.Tasks[runs].Helper = pc, helper
			}), steps(0), both(stopped, later))
		}
	}
	done(t, "behind others", placed(func(w *api.World) { sample.Queue(w, still, 0, 3, 1) }), runsBy(0), both(stopped, later))
	done(t, "and the next one comes", placed(func(w *api.World) {
		w.Time = 4
		sample.Queue(w, still, 0, 3, 1)
	}), runsBy(0, 0), func(w *api.World) {
		stopped(w)
		w.Ready[3], w.Tasks[still].State = nil, api.Still
		w.Time = 6
	})
}

// K1: who asks has its Pc behind the instruction then, in whatever comes of it.
func TestStepAsks(t *testing.T) {
	done(t, "sys 0", code(0x0e00, 0), steps(0), func(w *api.World) {
		w.Tasks[runs].Regs[0], w.Tasks[runs].Pc = 0, 2
		w.Cores[0], w.Ready[1] = -1, []int{runs}
		later(w)
	})
	done(t, "sys 4 where nothing is remembered", both(code(0x0e00, 4), func(w *api.World) { w.Tlbs[0] = nil }), steps(0), func(w *api.World) {
		w.Tasks[runs].Regs[0], w.Tasks[runs].Pc, w.Tasks[runs].Owes = 0, 2, -1
		r := &w.Tasks[asks]
		r.State, r.Regs[2] = api.Ready, 97
		w.Ready[0] = []int{asks}
		w.Tlbs[0] = []api.Entry{{Space: space, Page: 0, Frame: page}}
		later(w)
	})
	done(t, "sys 1 of an address that is none", code(0x0e00, 1), steps(0), func(w *api.World) {
		w.Tasks[runs].Regs[0], w.Tasks[runs].Pc = int(api.ErrKind), 2
		later(w)
	})
}
