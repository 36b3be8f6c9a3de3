package tree

import (
	"slices"

	"keyhold/api"
	"keyhold/deed"
	"keyhold/mmu"
	"keyhold/plain"
)

// drop empties a slot; with the last key to it a thing is gone.
func drop(w *api.World, slot int) {
	old := w.Slots[slot]
	w.Slots[slot] = plain.Empty()
	hand(w, slot, old.From)
	if k := old.Key; k.Kind != api.Clay && !isOpened(w, k.Kind, k.Base) {
		lose(w, k.Kind, k.Base)
	}
}

// isOpened: is there a key of this kind to a frame?
func isOpened(w *api.World, kind, frame int) bool {
	return slices.ContainsFunc(w.Slots, func(s api.Slot) bool { return s.Key.Kind == kind && s.Key.Base == frame })
}

// lose: a thing is gone. It is nothing ahead of all else, so that nobody finds it when what hung on it goes.
func lose(w *api.World, kind, frame int) {
	w.Kinds[frame] = api.None
	switch kind {
	case api.Page, api.Table:
		untell(w, frame)
	case api.Space:
		forgo(w, frame, func(t *api.Running) *int { return &t.Space })
	case api.Node:
		forgo(w, frame, func(t *api.Running) *int { return &t.Node })
		dropAll(w, frame)
	case api.Task:
		endTask(w, frame)
	case api.Door, api.Bell:
		disperse(w, frame)
		forgo(w, frame, func(t *api.Running) *int { return &t.Helper })
	}
}

// untell: the entries that tell a frame become 0.
func untell(w *api.World, frame int) {
	reads, _ := mmu.Entry(frame, false)
	writes, _ := mmu.Entry(frame, true)
	for n, e := range w.Ram {
		kind := w.Kinds[n/api.Words]
		if (kind == api.Table || kind == api.Space) && (e == reads || e == writes) {
			w.Ram[n] = 0
		}
	}
}

// forgo: tasks have a frame no more.
func forgo(w *api.World, frame int, field func(t *api.Running) *int) {
	for i := range w.Tasks {
		if f := field(&w.Tasks[i]); *f == frame {
			*f = plain.None
		}
	}
}

// dropAll empties the slots of a node, from the last one on.
func dropAll(w *api.World, node int) {
	for at := api.Words - 1; at >= 0; at-- {
		if slot := node*api.Words + at; w.Slots[slot].Key.Kind != api.None {
			drop(w, slot)
		}
	}
}

// endTask: whom a task owes is never answered any more.
func endTask(w *api.World, t int) {
	owed := w.Tasks[t].Owes
	deed.Stop(w, t)
	if owed != plain.None {
		w.Tasks[owed].State = api.Still
	}
	w.Tasks[t] = plain.Blank()
}

// disperse: who stands in a line stands there no more, and what was rung is not heard.
func disperse(w *api.World, frame int) {
	for _, t := range w.Lines[frame] {
		w.Tasks[t].State, w.Tasks[t].At = api.Still, plain.None
	}
	w.Lines[frame], w.Bits[frame] = nil, 0
}
