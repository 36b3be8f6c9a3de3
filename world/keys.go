package world

import (
	"keyhold/api"
	"keyhold/plain"
	"keyhold/word"
)

// badSlot: is a slot not well?
func (v *view) badSlot(n int, s api.Slot) bool {
	if s.Key == (api.Key{}) {
		return s.From != plain.None
	}
	return v.Kinds[n/api.Words] != api.Node || !v.opens(s.Key) || !v.isMade(s) || v.isEndless(s.From)
}

// opens: may the key be, and is what it is to there?
func (v *view) opens(k api.Key) bool {
	if word.Check(k) != nil || k.Base+k.Len > len(v.Kinds) {
		return false
	}
	return k.Kind == api.Clay || v.Kinds[k.Base] == k.Kind
}

func (v *view) isSlot(n int) bool { return plain.IsSlot(&v.World, n) }

// isMade: is the slot's key made from none, or from one from which it can be made?
func (v *view) isMade(s api.Slot) bool {
	if s.From == plain.None {
		return true
	}
	if !v.isSlot(s.From) {
		return false
	}
	from := v.Slots[s.From].Key
	return word.Check(from) == nil && canMake(from, s.Key)
}

// canMake: clay makes things out of its used frames, any other key lesser ones to the same thing.
func canMake(from, k api.Key) bool {
	if from.Kind == api.Clay {
		return k.Kind != api.Clay && plain.Within(k.Base, from.Base, from.Base+from.Mark-1)
	}
	if k.Kind != from.Kind || k.Base != from.Base || k.Rights&^from.Rights != 0 {
		return false
	}
	return from.Badge == 0 || k.Badge == from.Badge
}

// isEndless: a way up that is longer than there are slots comes by one of them again, and so never ends.
func (v *view) isEndless(at int) bool {
	for range v.Slots {
		if !v.isSlot(at) {
			return false
		}
		at = v.Slots[at].From
	}
	return v.isSlot(at)
}

// badFrame: is a frame not well? (Frames are asked behind all slots: keys are ones by then.)
func (v *view) badFrame(n, kind int) bool {
	clays, isOpened, isUnused := 0, false, false
	for i := range v.Slots {
		switch k := &v.Slots[i].Key; k.Kind {
		case api.None:
		case api.Clay:
			if plain.Within(n, k.Base, k.Base+k.Len-1) {
				clays++
				isUnused = isUnused || n >= k.Base+k.Mark
			}
		default:
			isOpened = isOpened || k.Base == n
		}
	}
	return clays > 1 || kind != api.None && (!isOpened || isUnused)
}
