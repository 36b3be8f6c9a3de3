// Package sample: worlds for tests, written out by hand.
package sample

import "keyhold/api"

// Die tells numbers that look drawn, the same each time.
type Die uint64

// N is a number below most.
func (d *Die) N(most int) int {
	*d = *d*6364136223846793005 + 1442695040888963407
	return int(uint64(*d>>33) % uint64(most))
}

// Key is a slot with a key to a frame, made from a slot.
func Key(kind, base, rights, badge, from int) api.Slot {
	return api.Slot{Key: api.Key{Kind: kind, Base: base, Len: 1, Rights: rights, Badge: badge}, From: from}
}

// Clay is a slot with a key to frames that are nothing yet, but for the first used ones.
func Clay(base, length, used int) api.Slot {
	return api.Slot{Key: api.Key{Kind: api.Clay, Base: base, Len: length, Mark: used, Rights: api.All}, From: -1}
}

// Hollow is a world in which nothing is.
func Hollow(frames, cores int, doms ...int) api.World {
	w := api.World{
		Ram: make([]int, 16*frames), Kinds: make([]int, frames), Lines: make([][]int, frames), Bits: make([]int, frames),
		Ready: make([][]int, 4*cores), Tlbs: make([][]api.Entry, cores), Doms: append([]int(nil), doms...),
	}
	for range 16 * frames {
		w.Slots = append(w.Slots, api.Slot{From: -1})
	}
	for range frames {
		w.Tasks = append(w.Tasks, api.Running{Node: -1, Space: -1, Helper: -1, At: -1, Owes: -1})
	}
	for range cores {
		w.Cores = append(w.Cores, -1)
	}
	return w
}

// Frames of a full world: 0 and 1 are nodes, 18 to 20 clay that is not used, 21 and 22 other clay, 23 is nothing at all. Tasks are named by what they do.
const (
	Root = iota
	Node
	Space
	Table
	Page
	Page2
	Runs
	Next
	Sends
	Calls
	Waits
	Asks
	Listens
	Still
	Door
	Desk
	Bell
	Rung
)

// Full is a sound world with a task in each state. Frames 1 to 17 are of the clay of slot 1; the key to frame f is in slot f+1.
func Full() api.World {
	w := Hollow(24, 2, 0, 1)
	w.Time = 7
	w.Kinds[Root] = api.Node
	w.Slots[0] = Key(api.Node, Root, 7, 0, -1)
	w.Slots[1] = Clay(1, 20, 17)
	kinds := []int{api.Node, api.Space, api.Table, api.Page, api.Page,
		api.Task, api.Task, api.Task, api.Task, api.Task, api.Task, api.Task, api.Task,
		api.Door, api.Door, api.Bell, api.Bell}
	for i, kind := range kinds {
		w.Kinds[1+i] = kind
		w.Slots[2+i] = Key(kind, 1+i, 7, 0, 1)
	}
	w.Slots[19] = Clay(21, 2, 0)
	w.Slots[20] = Key(api.Door, Door, 3, 5, 15)
	w.Slots[21] = Key(api.Door, Door, 1, 5, 20)
	w.Slots[22] = Key(api.Page, Page, 1, 0, 5)
	w.Slots[23] = Key(api.Bell, Bell, 6, 65535, 17)
	w.Ram[16*Space] = 0x8003
	w.Ram[16*Table], w.Ram[16*Table+1] = 0x8004, 0xc005
	w.Tlbs[0] = []api.Entry{{Space: Space, Page: 0, Frame: Page}, {Space: Space, Page: 1, Frame: Page2, Write: true}}
	w.Tlbs[1] = []api.Entry{{Space: Space, Page: 1, Frame: Page2, Write: true}}
	placeTasks(&w)
	return w
}

// placeTasks gives each task its state, and what belongs to it.
func placeTasks(w *api.World) {
	for t := Runs; t <= Still; t++ {
		w.Tasks[t].Node, w.Tasks[t].Space = Node, Space
	}
	place := func(t, state, at int) *api.Running {
		w.Tasks[t].State, w.Tasks[t].At = state, at
		return &w.Tasks[t]
	}
	r := place(Runs, api.Ready, -1)
	r.Owes, r.Dom, r.Regs = Asks, 3, [8]int{0, 65535, 2, 3, 4, 5, 6, 65535}
	w.Cores[0] = Runs
	r = place(Next, api.Ready, -1)
	r.Core, r.Prio, r.Pc = 1, 2, 65535
	w.Ready[1*4+2] = []int{Next}
	r = place(Sends, api.Sending, Door)
	r.Word, r.Badge = 65535, 65535
	r = place(Calls, api.Calling, Door)
	r.Helper = Desk
	w.Lines[Door] = []int{Sends, Calls}
	place(Waits, api.Waiting, Desk)
	w.Lines[Desk] = []int{Waits}
	place(Asks, api.Asking, -1)
	place(Listens, api.Listening, Bell)
	w.Lines[Bell] = []int{Listens}
	w.Bits[Rung] = 65535
	r = place(Still, api.Still, -1)
	r.Prio, r.Core = 3, 1
}
