package parts

import (
	"keyhold/api"
	"keyhold/mmu"
	"keyhold/plain"
)

// leasts: of each frame the least one of its part, as far as it is known what is joined.
type leasts []int

// alone are frames that nothing joins yet.
func alone(frames int) leasts {
	l := make(leasts, frames)
	for frame := range l {
		l[frame] = frame
	}
	return l
}

// join makes one part of those of two frames. All of the one are told the other's least, so that whatever is joined later finds it at once.
func (l leasts) join(a, b int) {
	stays, goes := min(l[a], l[b]), max(l[a], l[b])
	for frame, least := range l {
		if least == goes {
			l[frame] = stays
		}
	}
}

// joinKeys: frames that have keys, what these are to, and where they were made from. (An empty slot is to no frames and made from none.)
func (l leasts) joinKeys(w *api.World) {
	for n, s := range w.Slots {
		frame := n / api.Words
		for i := range s.Key.Len {
			l.join(frame, s.Key.Base+i)
		}
		if s.From != plain.None {
			l.join(frame, s.From/api.Words)
		}
	}
}

// joinEntries: tables and spaces, and what their entries lead to. (What looks like an entry elsewhere is only a word.)
func (l leasts) joinEntries(w *api.World) {
	for frame, kind := range w.Kinds {
		if kind != api.Table && kind != api.Space {
			continue
		}
		for _, entry := range piece(w.Ram, frame) {
			if to, _, ok := mmu.Leads(entry); ok {
				l.join(frame, to)
			}
		}
	}
}

// joinTasks: tasks, and what they have, where they stand, whom they owe. (Frames that are no tasks have none of these.)
func (l leasts) joinTasks(w *api.World) {
	for frame, r := range w.Tasks {
		for _, other := range []int{r.Node, r.Space, r.Helper, r.At, r.Owes} {
			if other != plain.None {
				l.join(frame, other)
			}
		}
	}
}
