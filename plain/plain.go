// Package plain: small things that all layers ask of numbers and of worlds.
package plain

import (
	"keyhold/api"
	"keyhold/mmu"
)

// None stands where a frame, a slot or a task could be told, and there is none.
const None = -1

// MaxPage, MaxDom and MaxTime are the last page of a space, the last domain, and the last time of a sound world.
const (
	MaxPage = api.Words*api.Words - 1
	MaxDom  = 3
	MaxTime = 1000000
)

// Within: is it one of least to most?
func Within(v, least, most int) bool { return least <= v && v <= most }

// IsWord: can it stand in a word?
func IsWord(v int) bool { return Within(v, 0, api.MaxWord) }

// IsFrame: is it the number of a frame?
func IsFrame(w *api.World, n int) bool { return Within(n, 0, len(w.Kinds)-1) }

// IsCore: is it the number of a core?
func IsCore(w *api.World, n int) bool { return Within(n, 0, len(w.Cores)-1) }

// Is: is it a frame of this kind?
func Is(w *api.World, frame, kind int) bool { return IsFrame(w, frame) && w.Kinds[frame] == kind }

// Thing: what is wrong with a number that should be that of a frame of this kind?
func Thing(w *api.World, frame, kind int) error {
	if !IsFrame(w, frame) {
		return api.ErrRange
	}
	if !Is(w, frame, kind) {
		return api.ErrKind
	}
	return nil
}

// IsSlot: is it the number of a slot?
func IsSlot(w *api.World, n int) bool { return Within(n, 0, len(w.Slots)-1) }

// Full: is there something in a slot?
func Full(w *api.World, slot int) error {
	if !IsSlot(w, slot) {
		return api.ErrRange
	}
	if w.Slots[slot].Key.Kind == api.None {
		return api.ErrEmpty
	}
	return nil
}

// Told: do the tables tell what is remembered?
func Told(w *api.World, e api.Entry) bool {
	if !Is(w, e.Space, api.Space) || !Within(e.Page, 0, MaxPage) {
		return false
	}
	to, write, err := mmu.Walk(w.Ram, e.Space, e.Page*api.Words)
	return err == nil && to == e.Frame && write == e.Write
}

// Blank is the task of a frame that is no task.
func Blank() api.Running {
	return api.Running{Node: None, Space: None, Helper: None, At: None, Owes: None}
}

// Empty is a slot without a key.
func Empty() api.Slot { return api.Slot{From: None} }
