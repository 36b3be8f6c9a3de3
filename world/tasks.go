package world

import (
	"keyhold/api"
	"keyhold/plain"
)

// badTask: is a task not well? (A frame that is none may stand in a line, in Cores or in Ready: that is told there.)
func (v *view) badTask(n int, t api.Running) bool {
	if v.Kinds[n] != api.Task {
		return t != plain.Blank()
	}
	return !v.numbersFit(t) || !v.framesFit(t) || !v.debtsFit(n, t) || !v.standsRight(n, t) || !v.runsRight(n, t)
}

func (v *view) numbersFit(t api.Running) bool {
	for _, r := range t.Regs {
		if !plain.IsWord(r) {
			return false
		}
	}
	if !plain.IsWord(t.Pc) || !plain.IsWord(t.Word) || !plain.IsWord(t.Badge) {
		return false
	}
	if !plain.Within(t.State, api.Still, api.Listening) || !plain.Within(t.Prio, 0, api.MaxPrio-1) {
		return false
	}
	return plain.Within(t.Core, 0, len(v.Cores)-1) && plain.Within(t.Dom, 0, plain.MaxDom)
}

func (v *view) framesFit(t api.Running) bool {
	return v.isOr(t.Node, api.Node) && v.isOr(t.Space, api.Space) && v.isOr(t.Helper, api.Door) && v.isOr(t.Owes, api.Task)
}

// debtsFit: who asks is owed by one, and nobody else is owed.
func (v *view) debtsFit(n int, t api.Running) bool {
	if t.Owes != plain.None && (v.Tasks[t.Owes].State != api.Asking || t.State == api.Waiting) {
		return false
	}
	owed := 0
	for _, other := range v.Tasks {
		if other.Owes == n {
			owed++
		}
	}
	if t.State == api.Asking {
		return owed == 1
	}
	return owed == 0
}

// standsRight: who waits for something stands in the line of it, once; nobody else stands in any.
func (v *view) standsRight(n int, t api.Running) bool {
	all := countAll(v.Lines, n)
	if kind := placeOf(t.State); kind != api.None {
		return v.is(t.At, kind) && all == 1 && count(v.Lines[t.At], n) == 1
	}
	return t.At == plain.None && all == 0
}

// placeOf is the kind of thing where a task of a state stands (None: nowhere).
func placeOf(state int) int {
	switch state {
	case api.Sending, api.Calling, api.Waiting:
		return api.Door
	case api.Listening:
		return api.Bell
	}
	return api.None
}

// runsRight: who is Ready is on a core or next somewhere, once; nobody else is.
func (v *view) runsRight(n int, t api.Running) bool {
	all := count(v.Cores, n) + countAll(v.Ready, n)
	if t.State == api.Ready {
		return all == 1
	}
	return all == 0
}

// count: how often is it in the list?
func count(list []int, n int) int {
	times := 0
	for _, v := range list {
		if v == n {
			times++
		}
	}
	return times
}

func countAll(lists [][]int, n int) int {
	times := 0
	for _, l := range lists {
		times += count(l, n)
	}
	return times
}

// badLine: is a line not well, or a bell's bits?
func (v *view) badLine(n int, line []int) bool {
	bell := v.Kinds[n] == api.Bell
	if len(line) > 0 && !bell && v.Kinds[n] != api.Door {
		return true
	}
	if v.Bits[n] != 0 && (!bell || len(line) > 0 || !plain.IsWord(v.Bits[n])) {
		return true
	}
	for _, t := range line {
		if !v.is(t, api.Task) || v.Tasks[t].At != n {
			return true
		}
		// Words go one way at a time: either all wait for them, or none.
		if v.waits(t) != v.waits(line[0]) {
			return true
		}
	}
	return false
}

func (v *view) waits(t int) bool { return v.Tasks[t].State == api.Waiting }

// isReady: is it a task that may run on this core?
func (v *view) isReady(t, core int) bool {
	return v.is(t, api.Task) && v.Tasks[t].State == api.Ready && v.Tasks[t].Core == core
}

// badCore: does someone run on a core who may not?
func (v *view) badCore(core, t int) bool { return t != plain.None && !v.isReady(t, core) }

// badReady: is someone next in a list of Ready that is not theirs?
func (v *view) badReady(n int, list []int) bool {
	core, prio := n/api.MaxPrio, n%api.MaxPrio
	for _, t := range list {
		if !v.isReady(t, core) || v.Tasks[t].Prio != prio {
			return true
		}
	}
	return false
}
