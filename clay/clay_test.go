package clay_test

import (
	"fmt"
	"math"
	"testing"

	"keyhold/api"
	"keyhold/clay"
	"keyhold/sample"
	"keyhold/world"
)

// In a full world slot 1 has clay from frame 1 on, of which frames 18 to 20 are left, slot 19 clay of which nothing is used, frames 21 and 22. Slots 24 to 31 are empty; of frames 0 and 1, which are nodes, the other ones are not.
const (
	used, fresh    = 1, 19
	usedAt, freeAt = 18, 21
	first, last    = 24, 31
)

var full, key, lump, empty = sample.Full, sample.Key, sample.Clay, api.Slot{From: -1}

// makes is a call of Make.
func makes(slot, kind, many, to int) sample.Call {
	return func(w api.World) (api.World, error) { return clay.Make(w, slot, kind, many, to) }
}

// things: so many frames from one on are of a kind, their words noughts; their keys are in slots from one on; of the clay so much is used.
func things(slot, kind, many, to, frame, mark int) sample.Change {
	return func(w *api.World) {
		for i := range many {
			w.Kinds[frame+i], w.Slots[to+i] = kind, key(kind, frame+i, 7, 0, slot)
			for n := range 16 {
				w.Ram[16*(frame+i)+n] = 0
			}
		}
		w.Slots[slot].Key.Mark = mark
	}
}

func asItIs(w *api.World) {}

// done: of a full world, first altered, the call makes one that differs by what is wanted, and by nothing else.
func done(t *testing.T, why string, before sample.Change, do sample.Call, wanted sample.Change) {
	t.Helper()
	if wrong := sample.Done(before, do, wanted, fmt.Sprint); wrong != "" {
		t.Errorf("%s: %s", why, wrong)
	}
}

// refused: of a full world, first altered, the call makes none; nothing changes.
func refused(t *testing.T, why string, before sample.Change, do sample.Call, want api.Errno) {
	t.Helper()
	w := full()
	before(&w)
	if err := world.Check(w); err != nil {
		t.Fatalf("%s: this world to begin with is not sound: %v", why, err)
	}
	if wrong := sample.Refused(w, do, want, fmt.Sprint); wrong != "" {
		t.Errorf("%s: %s", why, wrong)
	}
}

// room: of a full world, first altered, so many frames of a clay are left; nothing is written.
func room(t *testing.T, why string, before sample.Change, slot, want int, wantErr error) {
	t.Helper()
	begin := full()
	before(&begin)
	w, whole := sample.Roomy(begin)
	text := fmt.Sprint(whole)
	if got, err := clay.Room(w, slot); got != want || err != wantErr {
		t.Errorf("%s: Room(%d): %d, %v; want %d, %v", why, slot, got, err, want, wantErr)
	}
	if fmt.Sprint(whole) != text {
		t.Errorf("%s: Room writes into the world", why)
	}
}

// H1: both refuse a world that is not sound, ahead of all else.
func TestUnsound(t *testing.T) {
	for why, spoil := range map[string]sample.Change{
		"nothing":          func(w *api.World) { *w = api.World{} },
		"too late":         func(w *api.World) { w.Time = 1000001 },
		"too few slots":    func(w *api.World) { w.Slots = w.Slots[:20] },
		"wrongly told":     func(w *api.World) { w.Tlbs[1][0].Frame = sample.Page },
		"clay in use":      func(w *api.World) { w.Slots[used].Key.Mark = 3 },
		"clay out of it":   func(w *api.World) { w.Slots[fresh].Key.Len = 4 },
		"more than there":  func(w *api.World) { w.Slots[fresh].Key.Mark = 3 },
		"clay out of clay": func(w *api.World) { w.Slots[fresh].From = used },
	} {
		w := full()
		spoil(&w)
		for _, do := range []sample.Call{makes(used, api.Page, 1, first), makes(-1, -1, -1, -1), makes(5, 0, 0, 5), makes(fresh, api.Page, 9, first)} {
			if wrong := sample.Refused(w, do, api.ErrState, fmt.Sprint); wrong != "" {
				t.Errorf("%s: %s", why, wrong)
			}
		}
		for _, slot := range []int{used, fresh, -1, 384, 24, 5} {
			room(t, why, spoil, slot, 0, api.ErrState)
		}
	}
}

// H1: slot and to are slots, ahead of whatever else is asked of both.
func TestNoSlots(t *testing.T) {
	for _, none := range []int{-1, 384, math.MinInt, math.MaxInt} {
		for _, to := range []int{first, 5, 383, none} {
			refused(t, fmt.Sprint("out of slot ", none), asItIs, makes(none, api.Page, 1, to), api.ErrRange)
			refused(t, fmt.Sprint("out of slot ", none, ", no kind"), asItIs, makes(none, api.Clay, 1, to), api.ErrRange)
		}
		for _, slot := range []int{used, 5, 383} {
			refused(t, fmt.Sprint("into slot ", none), asItIs, makes(slot, api.Page, 1, none), api.ErrRange)
			refused(t, fmt.Sprint("into slot ", none, ", no kind"), asItIs, makes(slot, api.Clay, 1, none), api.ErrRange)
		}
		room(t, "no slot", asItIs, none, 0, api.ErrRange)
	}
}

// H1: nothing is made out of an empty slot, ahead of kinds and how many.
func TestEmptySlot(t *testing.T) {
	for _, slot := range []int{first, last, 32, 383} {
		for _, kind := range []int{api.Page, api.Bell, api.Clay, 99} {
			refused(t, fmt.Sprint("out of empty slot ", slot), asItIs, makes(slot, kind, 1, first), api.ErrEmpty)
			refused(t, fmt.Sprint("out of empty slot ", slot, ", into no node"), asItIs, makes(slot, kind, 1, 383), api.ErrEmpty)
			refused(t, fmt.Sprint("nothing out of empty slot ", slot), asItIs, makes(slot, kind, 0, 5), api.ErrEmpty)
		}
		room(t, "an empty slot", asItIs, slot, 0, api.ErrEmpty)
	}
}

// H1: out of clay alone, ahead of how many.
func TestNoClay(t *testing.T) {
	for slot := range first {
		if slot == used || slot == fresh {
			continue
		}
		for _, many := range []int{1, 0, 9, 99} {
			refused(t, fmt.Sprint(many, " out of slot ", slot), asItIs, makes(slot, api.Page, many, first), api.ErrKind)
		}
		refused(t, fmt.Sprint("out of slot ", slot, ", into one that is full"), asItIs, makes(slot, api.Page, 1, 5), api.ErrKind)
		room(t, "no clay", asItIs, slot, 0, api.ErrKind)
	}
}

// H1: things are Pages to Bells, in nodes, ahead of how many.
func TestNoKind(t *testing.T) {
	for _, kind := range []int{api.None, api.Clay, api.Bell + 1, -1, math.MinInt, math.MaxInt} {
		refused(t, fmt.Sprint("kind ", kind), asItIs, makes(used, kind, 1, first), api.ErrKind)
		refused(t, fmt.Sprint("none of kind ", kind), asItIs, makes(used, kind, 0, first), api.ErrKind)
		refused(t, fmt.Sprint("too many of kind ", kind), asItIs, makes(used, kind, 4, first), api.ErrKind)
		refused(t, fmt.Sprint("kind ", kind, " into a slot that is full"), asItIs, makes(used, kind, 1, 5), api.ErrKind)
	}
	for frame, kind := range full().Kinds {
		if kind == api.Node {
			continue
		}
		for _, to := range []int{16 * frame, 16*frame + 15} {
			for _, many := range []int{1, 0, 4, 17} {
				refused(t, fmt.Sprint(many, " into frame ", frame), asItIs, makes(used, api.Page, many, to), api.ErrKind)
			}
		}
	}
}

// H1: one or more, in slots of one frame, ahead of what is in them.
func TestHowMany(t *testing.T) {
	for _, many := range []int{0, -1, math.MinInt, math.MaxInt, math.MaxInt - first + 1, 10, 16, 17} {
		refused(t, fmt.Sprint("so many: ", many), asItIs, makes(used, api.Page, many, first), api.ErrRange)
		refused(t, fmt.Sprint("so many: ", many, ", from a slot that is full on"), asItIs, makes(used, api.Page, many, 23), api.ErrRange)
	}
	refused(t, "one more than there are slots", asItIs, makes(used, api.Page, 9, first), api.ErrRange)
	refused(t, "beyond a frame's end", asItIs, makes(used, api.Page, 2, last), api.ErrRange)
	refused(t, "beyond a frame's end, by one", asItIs, makes(used, api.Page, 3, last-1), api.ErrRange)
	refused(t, "from a node into another one", asItIs, makes(used, api.Page, 2, 15), api.ErrRange)
	refused(t, "from a node into another one, where all is empty", func(w *api.World) {
		w.Slots[15], w.Slots[16], w.Slots[30], w.Slots[31] = empty, empty, w.Slots[15], w.Slots[16]
		w.Slots[20].From = 30
	}, makes(used, api.Page, 2, 15), api.ErrRange)
	end := func(w *api.World) { w.Kinds[23], w.Slots[first] = api.Node, key(api.Node, 23, 7, 0, -1) }
	refused(t, "beyond the last slot", end, makes(used, api.Page, 2, 383), api.ErrRange)
	done(t, "in the last slot", end, makes(used, api.Page, 1, 383), things(used, api.Page, 1, 383, usedAt, 18))
	done(t, "up to a frame's end", asItIs, makes(used, api.Page, 3, 29), things(used, api.Page, 3, 29, usedAt, 20))
	done(t, "at a frame's end", asItIs, makes(used, api.Page, 1, last), things(used, api.Page, 1, last, usedAt, 18))
}

// H1: none of the slots has something, ahead of how much clay there is; what stands beside them is not asked.
func TestTwice(t *testing.T) {
	in := func(slot int) sample.Change {
		return func(w *api.World) { w.Slots[slot] = key(api.Page, sample.Page, 1, 0, 5) }
	}
	refused(t, "one slot", asItIs, makes(used, api.Page, 1, 23), api.ErrTwice)
	refused(t, "the first one", asItIs, makes(used, api.Page, 3, 23), api.ErrTwice)
	refused(t, "one between", in(25), makes(used, api.Page, 3, first), api.ErrTwice)
	refused(t, "the last one", in(26), makes(used, api.Page, 3, first), api.ErrTwice)
	refused(t, "the clay itself", asItIs, makes(used, api.Page, 1, used), api.ErrTwice)
	refused(t, "the clay itself, of which nothing is used", asItIs, makes(fresh, api.Page, 1, fresh), api.ErrTwice)
	refused(t, "other clay", asItIs, makes(used, api.Page, 1, fresh), api.ErrTwice)
	refused(t, "one of more than there is clay", asItIs, makes(used, api.Page, 9, 23), api.ErrTwice)
	refused(t, "a whole frame", asItIs, makes(used, api.Page, 16, 0), api.ErrTwice)
	refused(t, "no clay is left either", in(27), makes(used, api.Page, 4, first), api.ErrTwice)
	done(t, "the one behind", in(27), makes(used, api.Page, 3, first), things(used, api.Page, 3, first, usedAt, 20))
	done(t, "both beside it", func(w *api.World) { in(25)(w); in(27)(w) }, makes(used, api.Page, 1, 26), things(used, api.Page, 1, 26, usedAt, 18))
}

// H1: no more than there is clay.
func TestFull(t *testing.T) {
	for left, slot := range map[int]int{3: used, 2: fresh} {
		room(t, "clay", asItIs, slot, left, nil)
		refused(t, fmt.Sprint("one more than ", left), asItIs, makes(slot, api.Page, left+1, first), api.ErrFull)
		refused(t, fmt.Sprint("as many as there are slots, of ", left), asItIs, makes(slot, api.Page, 8, first), api.ErrFull)
	}
	spent := func(w *api.World) {
		things(used, api.Page, 3, first, usedAt, 20)(w)
		things(fresh, api.Door, 2, 27, freeAt, 2)(w)
	}
	for _, slot := range []int{used, fresh} {
		room(t, "clay that is used", spent, slot, 0, nil)
		refused(t, "out of clay that is used", spent, makes(slot, api.Page, 1, 29), api.ErrFull)
	}
}

// H1: frames become of this kind, one behind the other, with keys of all rights, made from the clay; and nothing else changes.
func TestMake(t *testing.T) {
	for kind := api.Page; kind <= api.Bell; kind++ {
		for many := 1; many <= 3; many++ {
			done(t, fmt.Sprint(many, " of kind ", kind), asItIs, makes(used, kind, many, first), things(used, kind, many, first, usedAt, 17+many))
		}
		for many := 1; many <= 2; many++ {
			done(t, fmt.Sprint("the first ", many, " of kind ", kind), asItIs, makes(fresh, kind, many, 28), things(fresh, kind, many, 28, freeAt, many))
		}
	}
	done(t, "into the first node", func(w *api.World) { w.Slots[9], w.Slots[last] = empty, w.Slots[9] },
		makes(used, api.Node, 1, 9), things(used, api.Node, 1, 9, usedAt, 18))
	done(t, "out of clay with fewer rights", func(w *api.World) { w.Slots[fresh].Key.Rights = 0 },
		makes(fresh, api.Task, 2, first), things(fresh, api.Task, 2, first, freeAt, 2))
}

// H1: the words of what is made are noughts, those of all else stay, of the clay that is left too.
func TestNoughts(t *testing.T) {
	scribble := func(w *api.World) {
		for n := range w.Ram {
			if kind := w.Kinds[n/16]; kind != api.Space && kind != api.Table {
				w.Ram[n] = 65535 - n
			}
		}
	}
	for kind := api.Page; kind <= api.Bell; kind++ {
		done(t, fmt.Sprint("one of kind ", kind), scribble, makes(used, kind, 1, first), things(used, kind, 1, first, usedAt, 18))
		done(t, fmt.Sprint("all of kind ", kind), scribble, makes(used, kind, 3, first), things(used, kind, 3, first, usedAt, 20))
		done(t, fmt.Sprint("other clay of kind ", kind), scribble, makes(fresh, kind, 2, first), things(fresh, kind, 2, first, freeAt, 2))
	}
	refused(t, "one too many", scribble, makes(used, api.Page, 4, first), api.ErrFull)
}

// H1: Mark counts as long as a key is made from the clay; then it is taken for 0.
func TestMark(t *testing.T) {
	gone := func(w *api.World) { w.Slots[fresh] = lump(21, 2, 2) }
	room(t, "all of it was used", gone, fresh, 2, nil)
	done(t, "all of it was used", gone, makes(fresh, api.Page, 1, first), things(fresh, api.Page, 1, first, freeAt, 1))
	done(t, "all of it was used, and is again", gone, makes(fresh, api.Page, 2, first), things(fresh, api.Page, 2, first, freeAt, 2))
	refused(t, "all of it was used, and more than that is wanted", gone, makes(fresh, api.Page, 3, first), api.ErrFull)
	half := func(w *api.World) { w.Slots[fresh] = lump(21, 2, 1) }
	room(t, "one was used", half, fresh, 2, nil)
	done(t, "one was used", half, makes(fresh, api.Page, 2, first), things(fresh, api.Page, 2, first, freeAt, 2))
	one := func(frame, mark int) sample.Change {
		return func(w *api.World) {
			w.Slots[fresh] = lump(21, 2, mark)
			w.Kinds[frame], w.Slots[first] = api.Page, key(api.Page, frame, 1, 0, fresh)
		}
	}
	room(t, "the first is used still", one(21, 1), fresh, 1, nil)
	done(t, "the first is used still", one(21, 1), makes(fresh, api.Bell, 1, 25), things(fresh, api.Bell, 1, 25, 22, 2))
	refused(t, "the first is used still: two", one(21, 1), makes(fresh, api.Bell, 2, 25), api.ErrFull)
	for _, frame := range []int{21, 22} {
		room(t, "one is used still, another one was", one(frame, 2), fresh, 0, nil)
		refused(t, "one is used still, another one was", one(frame, 2), makes(fresh, api.Page, 1, 25), api.ErrFull)
	}
}

// H1: it is From that is asked, and of this slot: other keys, of other slots or to its frames, don't count.
func TestMarkByFrom(t *testing.T) {
	other := func(w *api.World) {
		w.Slots[fresh] = lump(21, 2, 2)
		w.Kinds[21], w.Slots[first] = api.Page, key(api.Page, 21, 3, 0, -1)
		w.Ram[16*21+3] = 9
	}
	room(t, "a key that is made from nothing", other, fresh, 2, nil)
	done(t, "a key that is made from nothing", other, makes(fresh, api.Page, 1, 25), things(fresh, api.Page, 1, 25, 21, 1))
	done(t, "a clay's things count for that one alone", func(w *api.World) {
		things(used, api.Page, 3, first, usedAt, 20)(w)
		w.Slots[fresh] = lump(21, 2, 1)
	}, makes(fresh, api.Page, 2, 27), things(fresh, api.Page, 2, 27, freeAt, 2))
	ahead := func(w *api.World) {
		*w = sample.Hollow(4, 1, 0)
		w.Kinds[0], w.Slots[0], w.Slots[1] = api.Node, lump(1, 3, 0), key(api.Node, 0, 7, 0, -1)
	}
	done(t, "clay in the first slot", ahead, makes(0, api.Page, 3, 2), things(0, api.Page, 3, 2, 1, 3))
}

// A node of all slots, and a world of all clay.
func TestMakeMost(t *testing.T) {
	w := sample.Hollow(24, 4, 0)
	w.Kinds[0], w.Slots[0], w.Slots[1] = api.Node, key(api.Node, 0, 7, 0, -1), lump(1, 23, 0)
	for _, c := range []struct{ kind, many, to, left int }{{api.Node, 1, 2, 22}, {api.Task, 16, 16, 6}, {api.Bell, 6, 3, 0}} {
		next, err := clay.Make(w, used, c.kind, c.many, c.to)
		if err != nil || world.Check(next) != nil {
			t.Fatalf("%d of kind %d: %v; then: %v", c.many, c.kind, err, world.Check(next))
		}
		want, _ := sample.Roomy(w)
		mark := w.Slots[used].Key.Mark
		things(used, c.kind, c.many, c.to, 1+mark, mark+c.many)(&want)
		if wrong := sample.Differences(next, want, fmt.Sprint); wrong != "" {
			t.Errorf("%d of kind %d: %s", c.many, c.kind, wrong)
		}
		if left, err := clay.Room(next, used); left != c.left || err != nil {
			t.Errorf("then: Room: %d, %v; want %d", left, err, c.left)
		}
		w = next
	}
	if _, err := clay.Make(w, used, api.Page, 1, 9); err != error(api.ErrFull) {
		t.Errorf("all is used: %v", err)
	}
}
