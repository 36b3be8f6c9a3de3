package tree_test

import (
	"fmt"
	"math"
	"slices"
	"testing"

	"keyhold/api"
	"keyhold/sample"
	"keyhold/tree"
	"keyhold/world"
)

// Frames of a full world: the key to frame f is in slot f+1.
const (
	root, node, space, table, page, page2  = sample.Root, sample.Node, sample.Space, sample.Table, sample.Page, sample.Page2
	runs, next, sends, calls, waits        = sample.Runs, sample.Next, sample.Sends, sample.Calls, sample.Waits
	asks, listens, still, door, desk, bell = sample.Asks, sample.Listens, sample.Still, sample.Door, sample.Desk, sample.Bell
	rung                                   = sample.Rung
)

var full, key, clay, empty = sample.Full, sample.Key, sample.Clay, api.Slot{From: -1}

type (
	change = sample.Change
	call   = sample.Call
)

func copies(from, to, rights, badge int) call {
	return func(w api.World) (api.World, error) { return tree.Copy(w, from, to, rights, badge) }
}

func moves(from, to int) call {
	return func(w api.World) (api.World, error) { return tree.Move(w, from, to) }
}

func drops(slot int) call {
	return func(w api.World) (api.World, error) { return tree.Drop(w, slot) }
}

func revokes(slot int) call {
	return func(w api.World) (api.World, error) { return tree.Revoke(w, slot) }
}

// done: of a full world, first altered, the call makes one that differs by what is wanted, and by nothing else.
func done(t *testing.T, why string, first change, do call, wanted change) {
	t.Helper()
	if wrong := sample.Done(first, do, wanted, fmt.Sprint); wrong != "" {
		t.Errorf("%s: %s", why, wrong)
	}
}

// refused: the call tells this error, answers no world, and changes nothing.
func refused(t *testing.T, why string, begin api.World, do call, want api.Errno) {
	t.Helper()
	if wrong := sample.Refused(begin, do, want, fmt.Sprint); wrong != "" {
		t.Errorf("%s: %s", why, wrong)
	}
}

func asItIs(w *api.World) {}

// G1: all calls refuse a world that is not sound, ahead of all else.
func TestUnsound(t *testing.T) {
	late := full()
	late.Time = 1000001
	ragged := full()
	ragged.Slots = ragged.Slots[:20]
	told := full()
	told.Tlbs[1][0].Frame = page
	for n, w := range []api.World{{}, late, ragged, told} {
		for why, do := range map[string]call{
			"Copy": copies(5, 31, 7, 0), "Copy from nowhere": copies(-1, -1, -1, -1),
			"Move": moves(5, 31), "Move from nowhere": moves(-1, 384),
			"Drop": drops(5), "Drop nowhere": drops(-1), "Revoke": revokes(5), "Revoke nowhere": revokes(384),
		} {
			refused(t, fmt.Sprint(why, " in unsound world ", n), w, do, api.ErrState)
		}
		for _, slot := range []int{5, -1, 384} {
			if l, err := tree.Under(w, slot); len(l) != 0 || err != error(api.ErrState) {
				t.Errorf("Under in unsound world %d: %v, %v", n, l, err)
			}
		}
	}
}

// G1: slots with something, slots for something, and which of them is told first.
func TestSlotsRefused(t *testing.T) {
	none := []int{-1, 384, math.MinInt, math.MaxInt}
	hollow := []int{24, 31, 16 * page, 383}
	for _, slot := range none {
		for _, to := range []int{31, 5, -1, 383} {
			refused(t, fmt.Sprint("Copy from ", slot), full(), copies(slot, to, 8, -1), api.ErrRange)
			refused(t, fmt.Sprint("Move from ", slot), full(), moves(slot, to), api.ErrRange)
		}
		refused(t, fmt.Sprint("Drop ", slot), full(), drops(slot), api.ErrRange)
		refused(t, fmt.Sprint("Revoke ", slot), full(), revokes(slot), api.ErrRange)
		if l, err := tree.Under(full(), slot); len(l) != 0 || err != error(api.ErrRange) {
			t.Errorf("Under %d: %v, %v", slot, l, err)
		}
		refused(t, fmt.Sprint("Copy to ", slot), full(), copies(1, slot, 8, -1), api.ErrRange)
		refused(t, fmt.Sprint("Move to ", slot), full(), moves(1, slot), api.ErrRange)
	}
	for _, slot := range hollow {
		for _, to := range []int{31, 5, -1, 383, slot} {
			refused(t, fmt.Sprint("Copy from empty ", slot), full(), copies(slot, to, 8, -1), api.ErrEmpty)
			refused(t, fmt.Sprint("Move from empty ", slot), full(), moves(slot, to), api.ErrEmpty)
		}
		refused(t, fmt.Sprint("Drop empty ", slot), full(), drops(slot), api.ErrEmpty)
		refused(t, fmt.Sprint("Revoke empty ", slot), full(), revokes(slot), api.ErrEmpty)
		if l, err := tree.Under(full(), slot); len(l) != 0 || err != error(api.ErrEmpty) {
			t.Errorf("Under empty %d: %v, %v", slot, l, err)
		}
	}
	for f, kind := range full().Kinds {
		if kind != api.Node {
			for _, to := range []int{16 * f, 16*f + 15} {
				refused(t, fmt.Sprint("Copy into frame ", f), full(), copies(1, to, 8, -1), api.ErrKind)
				refused(t, fmt.Sprint("Move into frame ", f), full(), moves(1, to), api.ErrKind)
			}
		}
	}
	for _, to := range []int{0, 1, 5, 16, 23} {
		refused(t, fmt.Sprint("Copy onto ", to), full(), copies(1, to, 8, -1), api.ErrTwice)
		refused(t, fmt.Sprint("Move onto ", to), full(), moves(1, to), api.ErrTwice)
		refused(t, fmt.Sprint("Copy onto itself ", to), full(), copies(to, to, 7, 0), api.ErrTwice)
		refused(t, fmt.Sprint("Move onto itself ", to), full(), moves(to, to), api.ErrTwice)
	}
}

// G1: what Copy asks of a key, of rights and of a badge.
func TestCopyRefused(t *testing.T) {
	for _, c := range []struct {
		why                 string
		from, rights, badge int
		want                api.Errno
	}{
		{"clay", 1, 7, 0, api.ErrKind}, {"clay that is not used", 19, 0, 0, api.ErrKind},
		{"clay, ahead of rights", 1, 8, 0, api.ErrKind}, {"clay, ahead of a badge", 1, 7, 65536, api.ErrKind}, {"clay, with a badge", 1, 7, 5, api.ErrKind},
		{"rights below 0", 5, -1, 0, api.ErrRange}, {"rights above all", 5, 8, 0, api.ErrRange},
		{"least rights", 5, math.MinInt, 0, api.ErrRange}, {"greatest rights", 5, math.MaxInt, 0, api.ErrRange},
		{"a badge below 0", 15, 7, -1, api.ErrRange}, {"a badge above all", 15, 7, 65536, api.ErrRange},
		{"least badge", 15, 7, math.MinInt, api.ErrRange}, {"greatest badge", 15, 7, math.MaxInt, api.ErrRange},
		{"rights, ahead of a badge that may not be", 5, 8, 5, api.ErrRange}, {"a page's badge that is none", 5, 7, 65536, api.ErrRange},
		{"a page's badge", 5, 7, 1, api.ErrRight}, {"a table's badge", 4, 7, 1, api.ErrRight}, {"a space's badge", 3, 7, 1, api.ErrRight},
		{"a node's badge", 0, 7, 65535, api.ErrRight}, {"a task's badge", 7, 7, 1, api.ErrRight},
		{"a door's other badge", 20, 7, 6, api.ErrRight}, {"a door's own badge", 20, 7, 5, api.ErrRight}, {"a bell's other badge", 23, 7, 1, api.ErrRight},
	} {
		refused(t, c.why, full(), copies(c.from, 31, c.rights, c.badge), c.want)
	}
}

// G1: the key that Copy makes, and nothing else.
func TestCopy(t *testing.T) {
	for _, c := range []struct {
		why                     string
		from, to, rights, badge int
		want                    api.Slot
	}{
		{"all rights", 5, 31, 7, 0, key(api.Page, page, 7, 0, 5)},
		{"no rights", 5, 24, 0, 0, key(api.Page, page, 0, 0, 5)},
		{"one right", 5, 24, 2, 0, key(api.Page, page, 2, 0, 5)},
		{"no right more than there were", 22, 24, 7, 0, key(api.Page, page, 1, 0, 22)},
		{"a right that it hasn't", 22, 24, 6, 0, key(api.Page, page, 0, 0, 22)},
		{"some of those asked for", 23, 24, 3, 0, key(api.Bell, bell, 2, 65535, 23)},
		{"a door's badge", 15, 24, 3, 65535, key(api.Door, door, 3, 65535, 15)},
		{"a bell's badge", 17, 24, 7, 1, key(api.Bell, bell, 7, 1, 17)},
		{"no badge", 15, 24, 7, 0, key(api.Door, door, 7, 0, 15)},
		{"its own badge", 20, 24, 7, 0, key(api.Door, door, 3, 5, 20)},
		{"a node's", 0, 31, 7, 0, key(api.Node, root, 7, 0, 0)},
		{"a node's, into itself", 2, 16 + 14, 5, 0, key(api.Node, node, 5, 0, 2)},
		{"a task's", 7, 24, 7, 0, key(api.Task, runs, 7, 0, 7)},
		{"a space's", 3, 24, 1, 0, key(api.Space, space, 1, 0, 3)},
		{"a table's", 4, 24, 4, 0, key(api.Table, table, 4, 0, 4)},
	} {
		done(t, c.why, asItIs, copies(c.from, c.to, c.rights, c.badge), func(w *api.World) { w.Slots[c.to] = c.want })
	}
	done(t, "into the first node", func(w *api.World) { w.Slots[12], w.Slots[30] = empty, w.Slots[12] },
		copies(5, 12, 7, 0), func(w *api.World) { w.Slots[12] = key(api.Page, page, 7, 0, 5) })
}

// G2: what was there is in the other slot, with all that hangs on it.
func TestMove(t *testing.T) {
	done(t, "a key from which none is made", asItIs, moves(22, 31), func(w *api.World) {
		w.Slots[22], w.Slots[31] = empty, key(api.Page, page, 1, 0, 5)
	})
	done(t, "a key made from one, and from which one is made", asItIs, moves(20, 30), func(w *api.World) {
		w.Slots[20], w.Slots[30] = empty, key(api.Door, door, 3, 5, 15)
		w.Slots[21].From = 30
	})
	done(t, "a key with several made from it", func(w *api.World) {
		w.Slots[24], w.Slots[25] = key(api.Page, page, 1, 0, 5), key(api.Page, page, 1, 0, 22)
	}, moves(5, 26), func(w *api.World) {
		w.Slots[5], w.Slots[26] = empty, key(api.Page, page, 7, 0, 1)
		w.Slots[22].From, w.Slots[24].From = 26, 26
	})
	done(t, "clay", asItIs, moves(1, 31), func(w *api.World) {
		w.Slots[1], w.Slots[31] = empty, clay(1, 20, 17)
		for s := 2; s < 19; s++ {
			w.Slots[s].From = 31
		}
	})
	done(t, "clay of which nothing is used", asItIs, moves(19, 24), func(w *api.World) {
		w.Slots[19], w.Slots[24] = empty, clay(21, 2, 0)
	})
	done(t, "the only key to a thing", asItIs, moves(7, 24), func(w *api.World) {
		w.Slots[7], w.Slots[24] = empty, key(api.Task, runs, 7, 0, 1)
	})
	done(t, "the only key to a node, into it", asItIs, moves(2, 31), func(w *api.World) {
		w.Slots[2], w.Slots[31] = empty, key(api.Node, node, 7, 0, 1)
	})
}

// G2: Under tells all that hangs on a slot, rising, and not the slot itself.
func TestUnder(t *testing.T) {
	w := full()
	w.Slots[24] = key(api.Page, page, 1, 0, 25)
	w.Slots[25] = key(api.Page, page, 1, 0, 22)
	w.Slots[30] = key(api.Page, page, 7, 0, 5)
	w, whole := sample.Roomy(w)
	before := fmt.Sprint(whole)
	all := []int{}
	for s := 2; s < 31; s++ {
		if s != 19 && (s < 26 || s == 30) {
			all = append(all, s)
		}
	}
	for slot, want := range map[int][]int{
		0: nil, 1: all, 2: nil, 5: {22, 24, 25, 30}, 15: {20, 21}, 17: {23}, 19: nil, 20: {21}, 21: nil, 22: {24, 25}, 24: nil, 25: {24}, 30: nil,
	} {
		got, err := tree.Under(w, slot)
		if err != nil || !slices.Equal(got, want) {
			t.Errorf("Under(%d): %v, %v; want %v", slot, got, err, want)
		}
		for i := range got {
			got[i] = -1
		}
	}
	if fmt.Sprint(whole) != before {
		t.Error("Under writes into the world")
	}
}

// G2: the longest way there can be: all slots of 23 nodes, each made from the one behind it.
func TestUnderLongWay(t *testing.T) {
	w := sample.Hollow(24, 1, 0)
	for f := range 24 {
		w.Kinds[f] = api.Node
	}
	const last = 384 - 24
	for s := range last + 1 {
		w.Slots[s] = key(api.Node, 0, 7, 0, s+1)
	}
	w.Slots[last].From = -1
	for f := 1; f < 24; f++ {
		w.Slots[384-f] = key(api.Node, f, 7, 0, -1)
	}
	got, err := tree.Under(w, last)
	if err != nil || len(got) != last || got[0] != 0 || got[last-1] != last-1 {
		t.Errorf("Under: %v, %v", got, err)
	}
	if got, err := tree.Revoke(w, last); err != nil || got.Slots[0] != empty || got.Slots[last-1] != empty || got.Slots[last] != w.Slots[last] || world.Check(got) != nil {
		t.Errorf("Revoke: %v", err)
	}
}
