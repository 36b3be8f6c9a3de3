// Package deed: what is done to worlds.
package deed

import (
	"slices"

	"keyhold/api"
	"keyhold/plain"
	"keyhold/world"
)

// Do is the world that comes of another one, if that is sound and what is to be done doesn't refuse it.
func Do(w api.World, do func(w *api.World) error) (api.World, error) {
	if world.Check(w) != nil {
		return api.World{}, api.ErrState
	}
	next := Twin(w)
	if err := do(&next); err != nil {
		return api.World{}, err
	}
	return next, nil
}

// Twin is the same world in memory of its own.
func Twin(w api.World) api.World {
	return api.World{
		Ram:   slices.Clone(w.Ram),
		Kinds: slices.Clone(w.Kinds),
		Slots: slices.Clone(w.Slots),
		Tasks: slices.Clone(w.Tasks),
		Lines: twins(w.Lines),
		Bits:  slices.Clone(w.Bits),
		Cores: slices.Clone(w.Cores),
		Ready: twins(w.Ready),
		Tlbs:  twins(w.Tlbs),
		Doms:  slices.Clone(w.Doms),
		Time:  w.Time,
	}
}

func twins[T any](lists [][]T) [][]T {
	all := make([][]T, len(lists))
	for i, l := range lists {
		all[i] = slices.Clone(l)
	}
	return all
}

// Leave: a task is on no core, and stands in no line and in no Ready.
func Leave(w *api.World, t int) {
	w.Tasks[t].At = plain.None
	leave(w.Lines, t)
	leave(w.Ready, t)
	for core, runs := range w.Cores {
		if runs == t {
			w.Cores[core] = plain.None
		}
	}
}

// leave takes a task out of all lists.
func leave(lists [][]int, t int) {
	for i, l := range lists {
		lists[i] = slices.DeleteFunc(l, func(other int) bool { return other == t })
	}
}

// Wake: a task may run, behind all others of its core and priority. It leaves where it was first, since it is to be somewhere once.
func Wake(w *api.World, t int) {
	Leave(w, t)
	r := &w.Tasks[t]
	r.State = api.Ready
	n := r.Core*api.MaxPrio + r.Prio
	w.Ready[n] = append(w.Ready[n], t)
}

// Stop makes a task still: it stands nowhere, and nobody owes it any more.
func Stop(w *api.World, t int) {
	Leave(w, t)
	w.Tasks[t].State = api.Still
	for i := range w.Tasks {
		if w.Tasks[i].Owes == t {
			w.Tasks[i].Owes = plain.None
		}
	}
}
