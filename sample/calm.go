package sample

import "keyhold/api"

// Calm is a full world in which all tasks are Still, nobody stands anywhere, no bell is rung. Each register of each task has a number of its own.
func Calm() api.World {
	w := Full()
	clear(w.Lines)
	clear(w.Ready)
	clear(w.Bits)
	for core := range w.Cores {
		w.Cores[core] = -1
	}
	for t := Runs; t <= Still; t++ {
		w.Tasks[t] = api.Running{Node: Node, Space: Space, Helper: -1, At: -1, Owes: -1}
		for n := range w.Tasks[t].Regs {
			w.Tasks[t].Regs[n] = 100*t + n
		}
	}
	return w
}

// Run: a task that is Still runs on a core.
func Run(w *api.World, t, core, dom int) {
	w.Cores[core] = t
	w.Tasks[t].State, w.Tasks[t].Core, w.Tasks[t].Dom = api.Ready, core, dom
}

// Queue: a task that is Still is next on a core, behind all of its priority that are so already.
func Queue(w *api.World, t, core, prio, dom int) {
	w.Ready[4*core+prio] = append(w.Ready[4*core+prio], t)
	w.Tasks[t].State, w.Tasks[t].Core, w.Tasks[t].Prio, w.Tasks[t].Dom = api.Ready, core, prio, dom
}

// Stand: a task that is Still stands at the end of a line.
func Stand(w *api.World, t, at, state int) {
	w.Lines[at] = append(w.Lines[at], t)
	w.Tasks[t].State, w.Tasks[t].At = state, at
}

// Ask: a task that is Still asks another one for an answer.
func Ask(w *api.World, t, of int) {
	w.Tasks[t].State, w.Tasks[of].Owes = api.Asking, t
}
