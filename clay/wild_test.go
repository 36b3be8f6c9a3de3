package clay_test

import (
	"fmt"
	"math"
	"slices"
	"testing"

	"keyhold/api"
	"keyhold/clay"
	"keyhold/sample"
	"keyhold/tree"
	"keyhold/word"
	"keyhold/world"
)

// The document's world, as far as it is made: the keys there, what comes of a drop, and of making one more.
func TestDocument(t *testing.T) {
	w := sample.Hollow(24, 2, 0, 1)
	w.Kinds[0], w.Slots[0], w.Slots[1] = api.Node, key(api.Node, 0, 7, 0, -1), lump(1, 16, 0)
	for _, c := range [][3]int{{api.Node, 1, 2}, {api.Space, 1, 3}, {api.Table, 1, 4}, {api.Page, 2, 5}, {api.Task, 2, 7}, {api.Door, 1, 9}} {
		w = must(t, makes(1, c[0], c[1], c[2]), w)
	}
	if !slices.Equal(w.Kinds, []int{5, 5, 4, 3, 2, 2, 6, 6, 7, 0, 0, 0, 0, 0, 0, 0, 0, 0, 0, 0, 0, 0, 0, 0}) {
		t.Errorf("frames: %v", w.Kinds)
	}
	if n, err := word.Pack(w.Slots[1].Key); err != nil || n != 0x430470000 {
		t.Errorf("slot 1: %x, %v", n, err)
	}
	w = must(t, func(w api.World) (api.World, error) { return tree.Drop(w, 7) }, w)
	w = must(t, makes(1, api.Page, 1, 13), w)
	if w.Kinds[6] != api.None || w.Kinds[9] != api.Page || w.Slots[13] != key(api.Page, 9, 7, 0, 1) {
		t.Errorf("drop 7, make 1 2 1 13: %v, slot 13: %v", w.Kinds, w.Slots[13])
	}
}

// must is the world that a call makes, which is sound.
func must(t *testing.T, do sample.Call, w api.World) api.World {
	t.Helper()
	next, err := do(w)
	if err != nil || world.Check(next) != nil {
		t.Fatalf("%v; then: %v", err, world.Check(next))
	}
	return next
}

// Clay comes back when the last key to what was made of it is taken, by whatever way, and not before; it goes on wherever it is.
func TestClayComesBack(t *testing.T) {
	left := func(w api.World, slot, want int) {
		t.Helper()
		if n, err := clay.Room(w, slot); n != want || err != nil {
			t.Errorf("Room: %d, %v; want %d", n, err, want)
		}
	}
	drops := func(slot int) sample.Call {
		return func(w api.World) (api.World, error) { return tree.Drop(w, slot) }
	}
	w := must(t, makes(fresh, api.Page, 2, 24), full())
	left(w, fresh, 0)
	w = must(t, func(w api.World) (api.World, error) { return tree.Copy(w, 25, 26, 1, 0) }, w)
	w = must(t, drops(24), w)
	left(w, fresh, 0)
	w = must(t, drops(25), w)
	left(w, fresh, 0)
	w = must(t, func(w api.World) (api.World, error) { return tree.Move(w, fresh, 30) }, w)
	left(w, 30, 0)
	w = must(t, drops(26), w)
	left(w, 30, 2)
	w = must(t, makes(30, api.Door, 1, fresh), w)
	if w.Kinds[21] != api.Door || w.Kinds[22] != api.None || w.Slots[fresh] != key(api.Door, 21, 7, 0, 30) {
		t.Errorf("behind all that: %v, slot %d: %v", w.Kinds, fresh, w.Slots[fresh])
	}
	left(w, 30, 1)
	w = must(t, func(w api.World) (api.World, error) { return tree.Revoke(w, used) }, w)
	left(w, used, 20)
}

// slotsFrom are those of so many slots, from one on, that are there.
func slotsFrom(w api.World, to, many int) []api.Slot {
	return w.Slots[to:min(len(w.Slots), to+max(0, min(many, 16)))]
}

// markOf: how many frames of the clay in a slot count as used?
func markOf(w api.World, slot int) int {
	for _, s := range w.Slots {
		if s.From == slot {
			return w.Slots[slot].Key.Mark
		}
	}
	return 0
}

// outcome is the error that the chapter tells, word for word.
func outcome(w api.World, slot, kind, many, to int) api.Errno {
	isSlot := func(n int) bool { return n >= 0 && n < len(w.Slots) }
	if !isSlot(slot) || !isSlot(to) {
		return api.ErrRange
	}
	k := w.Slots[slot].Key
	if k == (api.Key{}) {
		return api.ErrEmpty
	}
	if k.Kind != api.Clay || kind < 2 || kind > 8 || w.Kinds[to/16] != api.Node {
		return api.ErrKind
	}
	if many < 1 || many > 16 || to/16 != (to+many-1)/16 {
		return api.ErrRange
	}
	for _, s := range slotsFrom(w, to, many) {
		if s != empty {
			return api.ErrTwice
		}
	}
	if many > k.Len-markOf(w, slot) {
		return api.ErrFull
	}
	return api.OK
}

// apart: frames are made of what was nothing, no other key is to them, and they begin with noughts.
func apart(t *testing.T, w, next api.World, frame, many int) {
	t.Helper()
	for f := frame; f < frame+many; f++ {
		keys := 0
		for _, s := range next.Slots {
			if s.Key.Kind > api.Clay && s.Key.Base == f {
				keys++
			}
		}
		if w.Kinds[f] != api.None || keys != 1 || slices.Max(next.Ram[16*f:16*f+16]) != 0 {
			t.Fatalf("frame %d was of kind %d, has %d keys and the words %v", f, w.Kinds[f], keys, next.Ram[16*f:16*f+16])
		}
	}
}

// wander is a world behind another one by a call that makes, copies, moves or takes back, at numbers that may be wrong.
func wander(t *testing.T, d *sample.Die, w api.World) (api.World, api.Errno) {
	t.Helper()
	slot := []int{used, fresh, d.N(32), d.N(400) - 8}[d.N(4)]
	to := []int{d.N(32), d.N(32), d.N(64), d.N(400) - 8}[d.N(4)]
	kind := []int{2 + d.N(7), 2 + d.N(7), 2 + d.N(7), d.N(11) - 1}[d.N(4)]
	many := []int{1, 1 + d.N(4), d.N(20) - 1, []int{math.MaxInt, math.MinInt}[d.N(2)]}[d.N(4)]
	want := outcome(w, slot, kind, many, to)
	if want != api.OK {
		if wrong := sample.Refused(w, makes(slot, kind, many, to), want, fmt.Sprint); wrong != "" {
			t.Fatalf("Make(%d, %d, %d, %d): %s", slot, kind, many, to, wrong)
		}
		return w, want
	}
	next := must(t, makes(slot, kind, many, to), w)
	mark := markOf(w, slot)
	frame := w.Slots[slot].Key.Base + mark
	apart(t, w, next, frame, many)
	other, _ := sample.Roomy(w)
	things(slot, kind, many, to, frame, mark+many)(&other)
	if wrong := sample.Differences(next, other, fmt.Sprint); wrong != "" {
		t.Fatalf("Make(%d, %d, %d, %d): %s", slot, kind, many, to, wrong)
	}
	return next, want
}

// meddle copies, moves or takes back a key, if it can; and writes words where nothing is, and into pages.
func meddle(d *sample.Die, w api.World) api.World {
	from, to := d.N(64), d.N(64)
	for f, kind := range w.Kinds {
		if kind == api.None || kind == api.Page {
			w.Ram[16*f+d.N(16)] = d.N(65536)
		}
	}
	next, err := tree.Copy(w, from, to, d.N(8), 0)
	switch d.N(8) {
	case 0:
		next, err = tree.Move(w, from, to)
	case 1, 2, 3, 4:
		if from > 1 {
			next, err = tree.Drop(w, from)
		}
	case 5:
		next, err = tree.Revoke(w, from)
	}
	if err != nil {
		return w
	}
	return next
}

// The whole's second and third: whatever is made, copied, moved and taken back, what is made lies apart, begins with noughts, and the world is sound; the errors are those of the chapter.
func TestMakeWild(t *testing.T) {
	d := sample.Die(15)
	told, again := map[api.Errno]int{}, 0
	for range 60 {
		w := full()
		for range 40 {
			next, what := wander(t, &d, w)
			told[what]++
			w = meddle(&d, next)
			for slot, s := range w.Slots {
				if s.Key.Kind != api.Clay {
					continue
				}
				n, err := clay.Room(w, slot)
				if err != nil || n != s.Key.Len-markOf(w, slot) {
					t.Fatalf("Room(%d): %d, %v of %v", slot, n, err, s.Key)
				}
				if s.Key.Mark > 0 && n == s.Key.Len {
					again++
				}
			}
		}
	}
	for _, e := range []api.Errno{api.OK, api.ErrRange, api.ErrEmpty, api.ErrKind, api.ErrTwice, api.ErrFull} {
		if told[e] < 10 {
			t.Errorf("error %d was told %d times: these numbers ask too little", e, told[e])
		}
	}
	if again == 0 {
		t.Error("no clay came back: these worlds ask too little")
	}
}
