package parts

import (
	"slices"

	"keyhold/api"
	"keyhold/plain"
)

// look is what is seen of a world by those frames that are asked for.
func look(w *api.World, isOf func(frame int) bool) View {
	var v View
	for frame := range w.Kinds {
		if isOf(frame) {
			v.add(w, frame)
		}
	}
	for _, next := range w.Ready {
		v.Turns = append(v.Turns, those(next, isOf))
	}
	for _, task := range w.Cores {
		if task != plain.None && !isOf(task) {
			task = plain.None
		}
		v.Runs = append(v.Runs, task)
	}
	return v
}

// add: one frame more is seen.
func (v *View) add(w *api.World, frame int) {
	v.Ram = append(v.Ram, piece(w.Ram, frame)...)
	v.Slots = append(v.Slots, piece(w.Slots, frame)...)
	v.Tasks = append(v.Tasks, w.Tasks[frame])
	v.Kinds = append(v.Kinds, w.Kinds[frame])
	v.Lines = append(v.Lines, slices.Clone(w.Lines[frame]))
	v.Bits = append(v.Bits, w.Bits[frame])
}

// those are the ones of a list that are asked for, in its order.
func those(l []int, isOf func(frame int) bool) []int {
	var all []int
	for _, n := range l {
		if isOf(n) {
			all = append(all, n)
		}
	}
	return all
}
