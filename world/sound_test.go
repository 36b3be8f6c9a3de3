package world_test

import (
	"fmt"
	"math"
	"testing"

	"keyhold/api"
)

// E4: of each sentence a slot with which just that is not well.
func TestSlots(t *testing.T) {
	checkSpoiled(t, []spoiled{
		{"empty, made from a slot", func(w *api.World) { w.Slots[31].From = 0 }, api.ErrState, 31},
		{"empty, made from a number that is none", func(w *api.World) { w.Slots[31].From = -2 }, api.ErrState, 31},
		{"empty, in a frame that is no node, made from a slot", func(w *api.World) { w.Slots[100].From = 1 }, api.ErrState, 100},
		{"in a page", func(w *api.World) { w.Slots[16*page] = key(api.Page, page, 7, 0, -1) }, api.ErrState, 16 * page},
		{"in a frame that is nothing", func(w *api.World) { w.Slots[383] = key(api.Page, page, 7, 0, -1) }, api.ErrState, 383},
		{"clay in a task", func(w *api.World) { w.Slots[16*runs+15] = clay(23, 1, 0) }, api.ErrState, 16*runs + 15},
		{"of no kind, with a base", func(w *api.World) { w.Slots[31].Key.Base = 1 }, api.ErrState, 31},
		{"of no kind, with a badge", func(w *api.World) { w.Slots[31].Key.Badge = 1 }, api.ErrState, 31},
		{"of a kind that is none", func(w *api.World) { w.Slots[5].Key.Kind = 9 }, api.ErrState, 5},
		{"of a kind below all", func(w *api.World) { w.Slots[5].Key.Kind = -1 }, api.ErrState, 5},
		{"of no length", func(w *api.World) { w.Slots[5].Key.Len = 0 }, api.ErrState, 5},
		{"of two frames", func(w *api.World) { w.Slots[5].Key.Len = 2 }, api.ErrState, 5},
		{"with a mark", func(w *api.World) { w.Slots[5].Key.Mark = 1 }, api.ErrState, 5},
		{"with rights that are none", func(w *api.World) { w.Slots[5].Key.Rights = 8 }, api.ErrState, 5},
		{"with rights below 0", func(w *api.World) { w.Slots[5].Key.Rights = -1 }, api.ErrState, 5},
		{"a page's with a badge", func(w *api.World) { w.Slots[5].Key.Badge = 1 }, api.ErrState, 5},
		{"a door's with too great a badge", func(w *api.World) { w.Slots[15].Key.Badge = 65536 }, api.ErrState, 15},
		{"of a base below 0", func(w *api.World) { w.Slots[5].Key.Base = -1 }, api.ErrState, 5},
		{"of a base above all", func(w *api.World) { w.Slots[5].Key.Base = 24 }, api.ErrState, 5},
		{"clay with too great a mark", func(w *api.World) { w.Slots[19].Key.Mark = 3 }, api.ErrState, 19},
		{"clay with too great a length", func(w *api.World) { w.Slots[19].Key.Len = 4 }, api.ErrState, 19},
		{"of a frame of another kind", func(w *api.World) { w.Slots[30] = key(api.Page, table, 7, 0, -1) }, api.ErrState, 30},
		{"of a frame that is nothing", func(w *api.World) { w.Slots[30] = key(api.Page, 23, 7, 0, -1) }, api.ErrState, 30},
	})
}

// E4: keys of frames that aren't there, in a world of fewer frames than may be.
func TestSlotsOfFramesThatAreNot(t *testing.T) {
	small := func() api.World {
		w := hollow(3, 1, 0)
		w.Kinds[0] = api.Node
		w.Slots[0] = key(api.Node, 0, 7, 0, -1)
		return w
	}
	wantCheck(t, "small", small(), api.OK, -1)
	for _, c := range []struct {
		s    api.Slot
		want api.Errno
	}{
		{clay(1, 2, 0), api.OK}, {clay(2, 1, 1), api.OK}, {clay(1, 3, 0), api.ErrState}, {clay(3, 1, 0), api.ErrState},
		{clay(2, 22, 0), api.ErrState}, {key(api.Page, 3, 7, 0, -1), api.ErrState}, {key(api.Page, 23, 7, 0, -1), api.ErrState},
	} {
		w := small()
		w.Slots[4] = c.s
		at := -1
		if c.want != api.OK {
			at = 4
		}
		wantCheck(t, fmt.Sprint("frames that aren't there: ", c.s), w, c.want, at)
	}
	// A key made from clay of frames that aren't there can be made from it: not it is told, but the clay.
	w := small()
	w.Kinds[2] = api.Page
	w.Slots[4], w.Slots[5] = key(api.Page, 2, 7, 0, 5), clay(2, 3, 1)
	wantCheck(t, "made from clay of frames that aren't there", w, api.ErrState, 5)
}

// E4: from which slot a key can be made. Slots 24 and 25 are free; the one made comes first.
func TestSlotsMadeFrom(t *testing.T) {
	const child, parent = 24, 25
	for _, c := range []struct {
		why       string
		made, out api.Slot
		at        int // which is not well; -1: none
	}{
		{"the same rights", key(api.Page, page, 7, 0, parent), key(api.Page, page, 7, 0, -1), -1},
		{"fewer rights", key(api.Page, page, 2, 0, parent), key(api.Page, page, 6, 0, -1), -1},
		{"no rights", key(api.Page, page, 0, 0, parent), key(api.Page, page, 0, 0, -1), -1},
		{"more rights", key(api.Page, page, 7, 0, parent), key(api.Page, page, 3, 0, -1), child},
		{"other rights, of a lesser number", key(api.Page, page, 1, 0, parent), key(api.Page, page, 6, 0, -1), child},
		{"one right more, one less", key(api.Page, page, 5, 0, parent), key(api.Page, page, 6, 0, -1), child},
		{"another frame", key(api.Page, page, 7, 0, parent), key(api.Page, page2, 7, 0, -1), child},
		{"another kind", key(api.Page, page, 7, 0, parent), key(api.Table, table, 7, 0, -1), child},
		{"another kind, the same frame", key(api.Page, page, 7, 0, parent), key(api.Table, page, 7, 0, -1), child},
		{"an empty slot", key(api.Page, page, 7, 0, parent), api.Slot{From: -1}, child},
		{"a key of none", key(api.Page, page, 7, 0, parent), api.Slot{Key: api.Key{Base: page}, From: -1}, child},
		{"a key that may not be", key(api.Page, page, 7, 0, parent), key(api.Page, page, 15, 0, -1), child},
		{"a key that may not be, of a badge", key(api.Page, page, 7, 0, parent), key(api.Page, page, 7, 1, -1), child},
		{"badge from none", key(api.Door, door, 7, 9, parent), key(api.Door, door, 7, 0, -1), -1},
		{"none from none", key(api.Door, door, 7, 0, parent), key(api.Door, door, 7, 0, -1), -1},
		{"the same badge", key(api.Door, door, 7, 9, parent), key(api.Door, door, 7, 9, -1), -1},
		{"another badge", key(api.Door, door, 7, 8, parent), key(api.Door, door, 7, 9, -1), child},
		{"none from a badge", key(api.Door, door, 7, 0, parent), key(api.Door, door, 7, 9, -1), child},
		{"a bell's badge from none", key(api.Bell, bell, 7, 9, parent), key(api.Bell, bell, 7, 0, -1), -1},
		{"a bell's other badge", key(api.Bell, bell, 7, 9, parent), key(api.Bell, bell, 7, 1, -1), child},
	} {
		w := full()
		w.Slots[child], w.Slots[parent] = c.made, c.out
		want := api.ErrState
		if c.at == -1 {
			want = api.OK
		}
		wantCheck(t, c.why, w, want, c.at)
	}
}

// E4: what clay can make: any other kind, out of its used frames.
func TestSlotsMadeFromClay(t *testing.T) {
	with := func(mark int, s api.Slot) func(w *api.World) {
		return func(w *api.World) { w.Slots[1].Key.Mark, w.Slots[18] = mark, s }
	}
	checkSpoiled(t, []spoiled{
		{"the last used frame", with(17, key(api.Bell, 17, 7, 0, 1)), api.OK, -1},
		{"the first frame that is not used", with(16, key(api.Bell, 17, 7, 0, 1)), api.ErrState, 18},
		{"nothing is used", with(0, key(api.Bell, 17, 7, 0, 1)), api.ErrState, 2},
		{"the frame ahead of it", func(w *api.World) { w.Slots[24] = key(api.Node, 0, 7, 0, 1) }, api.ErrState, 24},
		{"another clay's frame", func(w *api.World) { w.Slots[24] = key(api.Page, page, 7, 0, 19) }, api.ErrState, 24},
		{"clay from clay", func(w *api.World) { w.Slots[19].From = 1 }, api.ErrState, 19},
		{"clay from clay, out of used frames", func(w *api.World) { w.Slots[24] = clay(5, 1, 1); w.Slots[24].From = 1 }, api.ErrState, 24},
		{"clay from a page", func(w *api.World) { w.Slots[19].From = 5 }, api.ErrState, 19},
		{"from clay that may not be", func(w *api.World) { w.Slots[24] = key(api.Page, page, 7, 0, 25); w.Slots[25] = clay(4, 1, 2) }, api.ErrState, 24},
	})
}

// E4: a From that is no slot's.
func TestSlotsFromNowhere(t *testing.T) {
	for _, from := range []int{-2, 384, 400, math.MinInt, math.MaxInt} {
		w := full()
		w.Slots[5].From = from
		wantCheck(t, fmt.Sprint("from ", from), w, api.ErrState, 5)
		// The way up of what is made from it ends there.
		w = full()
		w.Slots[24], w.Slots[25] = key(api.Page, page, 7, 0, 25), key(api.Page, page, 7, 0, from)
		wantCheck(t, fmt.Sprint("the way up ends at ", from), w, api.ErrState, 25)
	}
}

// E4: ways up that never end.
func TestSlotsEndless(t *testing.T) {
	put := func(from map[int]int) func(w *api.World) {
		return func(w *api.World) {
			for s, f := range from {
				w.Slots[s] = key(api.Page, page, 7, 0, f)
			}
		}
	}
	checkSpoiled(t, []spoiled{
		{"made from itself", put(map[int]int{24: 24}), api.ErrState, 24},
		{"two from each other", put(map[int]int{24: 25, 25: 24}), api.ErrState, 24},
		{"three in a ring", put(map[int]int{24: 26, 25: 24, 26: 25}), api.ErrState, 24},
		{"a way into a ring", put(map[int]int{24: 25, 25: 27, 26: 27, 27: 26}), api.ErrState, 24},
		{"beside a ring", put(map[int]int{24: -1, 25: 24, 26: 27, 27: 26}), api.ErrState, 26},
		{"a way that ends", put(map[int]int{24: 25, 25: 26, 26: 27, 27: -1}), api.OK, -1},
		{"a way into an empty slot that is made from itself", func(w *api.World) {
			put(map[int]int{24: 25, 25: 300})(w)
			w.Slots[300].From = 300
		}, api.ErrState, 24},
		{"a way into an empty slot, and out", func(w *api.World) {
			put(map[int]int{24: 25, 25: 300})(w)
			w.Slots[300].From = 500
		}, api.ErrState, 25},
	})
}

// nodes is a world whose frames are all nodes, its slots all in one chain of keys to frame 0, but for those that open the others; up: each is made from the one behind it.
func nodes(up bool) api.World {
	w := hollow(24, 1, 0)
	for f := range 24 {
		w.Kinds[f] = api.Node
	}
	for s := range w.Slots {
		from := s - 1
		if up {
			from = s + 1
		}
		w.Slots[s] = key(api.Node, 0, 7, 0, from)
	}
	return w
}

// E4: the longest ways there can be, and the same ones closed to rings.
func TestSlotsLongWays(t *testing.T) {
	down, up := nodes(false), nodes(true)
	for f := 1; f < 24; f++ {
		// Those that open the other frames come last, so that the chain is whole.
		down.Slots[384-f] = key(api.Node, f, 7, 0, -1)
		up.Slots[384-f] = key(api.Node, f, 7, 0, -1)
	}
	const last = 384 - 24
	up.Slots[last].From = -1
	wantCheck(t, "a long way down", down, api.OK, -1)
	wantCheck(t, "a long way up", up, api.OK, -1)
	down.Slots[0].From = last
	up.Slots[last].From = 0
	wantCheck(t, "a long ring", down, api.ErrState, 0)
	wantCheck(t, "a long ring, the other way", up, api.ErrState, 0)
	// All slots in one way: it is not endless, though no key is to the other frames.
	all := nodes(false)
	wantCheck(t, "all slots in one way", all, api.ErrState, 1)
	all.Slots[0].From = 383
	wantCheck(t, "all slots in one ring", all, api.ErrState, 0)
	wantCheck(t, "all slots in one way up, which ends behind them", nodes(true), api.ErrState, 383)
}

// E5: frames.
func TestFrames(t *testing.T) {
	checkSpoiled(t, []spoiled{
		{"in two clays, used in both", func(w *api.World) { w.Slots[24] = clay(17, 1, 1) }, api.ErrState, 17},
		{"in two clays, used in one", func(w *api.World) { w.Slots[24] = clay(17, 1, 0) }, api.ErrState, 17},
		{"in two clays, the first frame of one", func(w *api.World) { w.Slots[24] = clay(0, 2, 2) }, api.ErrState, 1},
		{"in two clays, the last frame of one", func(w *api.World) { w.Slots[24] = clay(20, 1, 1) }, api.ErrState, 20},
		{"in one clay twice", func(w *api.World) { w.Slots[24] = w.Slots[19] }, api.ErrState, 21},
		{"nothing, in two clays", func(w *api.World) { w.Slots[24] = clay(22, 2, 0) }, api.ErrState, 22},
		{"nothing, beside two clays", func(w *api.World) { w.Slots[24] = clay(23, 1, 0) }, api.OK, -1},
		{"something to which no key is", func(w *api.World) { w.Kinds[23] = api.Page }, api.ErrState, 23},
		{"used clay to which no key is", func(w *api.World) { w.Slots[6] = api.Slot{From: -1} }, api.ErrState, page2},
		{"something, and just clay is to it", func(w *api.World) { w.Kinds[21], w.Slots[19].Key.Mark = api.Page, 1 }, api.ErrState, 21},
		{"the first node, to which no key is", func(w *api.World) { w.Slots[0] = api.Slot{From: -1} }, api.ErrState, 0},
		{"something in clay that is not used", func(w *api.World) {
			w.Kinds[21], w.Slots[24] = api.Page, key(api.Page, 21, 7, 0, -1)
		}, api.ErrState, 21},
		{"something in the last frame of clay that is not used", func(w *api.World) {
			w.Kinds[22], w.Slots[24] = api.Page, key(api.Page, 22, 7, 0, -1)
			w.Slots[19].Key.Mark = 1
		}, api.ErrState, 22},
		{"something in the first frame of clay that is not used", func(w *api.World) {
			w.Slots[18].From, w.Slots[1].Key.Mark = -1, 16
		}, api.ErrState, 17},
	})
}

// blanks has of each field of a task a way to be not blank.
func blanks() map[string]func(t *api.Running) {
	return map[string]func(t *api.Running){
		"register 0": func(t *api.Running) { t.Regs[0] = 1 },
		"register 7": func(t *api.Running) { t.Regs[7] = 1 },
		"Pc":         func(t *api.Running) { t.Pc = 1 },
		"State":      func(t *api.Running) { t.State = api.Ready },
		"Prio":       func(t *api.Running) { t.Prio = 1 },
		"Node":       func(t *api.Running) { t.Node = 1 },
		"Space":      func(t *api.Running) { t.Space = space },
		"Helper":     func(t *api.Running) { t.Helper = door },
		"At":         func(t *api.Running) { t.At = door },
		"Word":       func(t *api.Running) { t.Word = 1 },
		"Badge":      func(t *api.Running) { t.Badge = 1 },
		"Owes":       func(t *api.Running) { t.Owes = -2 },
		"Core":       func(t *api.Running) { t.Core = 1 },
		"Dom":        func(t *api.Running) { t.Dom = 1 },
		"all 0":      func(t *api.Running) { *t = api.Running{} },
	}
}

// E6: frames that are no tasks have the blank one.
func TestTasksBlank(t *testing.T) {
	for why, change := range blanks() {
		for _, at := range []int{0, page, door, 18, 23} {
			w := full()
			change(&w.Tasks[at])
			wantCheck(t, fmt.Sprint(why, " of frame ", at), w, api.ErrState, at)
		}
	}
	for at := runs; at <= still; at++ {
		w := hollow(24, 2, 0)
		w.Kinds[0], w.Slots[0] = api.Node, key(api.Node, 0, 7, 0, -1)
		w.Kinds[at], w.Slots[1] = api.Task, key(api.Task, at, 7, 0, -1)
		wantCheck(t, "a task may be blank", w, api.OK, -1)
	}
}

// E6: numbers of a task at their edges, at tasks of each state.
func TestTasksNumbers(t *testing.T) {
	for at := runs; at <= still; at++ {
		for why, f := range map[string]struct {
			field       func(t *api.Running) *int
			least, most int
		}{
			"register 0": {func(t *api.Running) *int { return &t.Regs[0] }, 0, 65535},
			"register 3": {func(t *api.Running) *int { return &t.Regs[3] }, 0, 65535},
			"register 7": {func(t *api.Running) *int { return &t.Regs[7] }, 0, 65535},
			"Pc":         {func(t *api.Running) *int { return &t.Pc }, 0, 65535},
			"Word":       {func(t *api.Running) *int { return &t.Word }, 0, 65535},
			"Badge":      {func(t *api.Running) *int { return &t.Badge }, 0, 65535},
			"Dom":        {func(t *api.Running) *int { return &t.Dom }, 0, 3},
		} {
			for _, v := range []int{f.least, f.most} {
				w := full()
				*f.field(&w.Tasks[at]) = v
				wantCheck(t, fmt.Sprint(why, " of task ", at, ": ", v), w, api.OK, -1)
			}
			for _, v := range []int{f.least - 1, f.most + 1, math.MinInt, math.MaxInt} {
				w := full()
				*f.field(&w.Tasks[at]) = v
				wantCheck(t, fmt.Sprint(why, " of task ", at, ": ", v), w, api.ErrState, at)
			}
		}
		for _, v := range []int{-1, 7, math.MinInt, math.MaxInt} {
			w := full()
			w.Tasks[at].State = v
			// Whoever owes one who asks no more is told ahead of it.
			first := at
			if at == asks {
				first = runs
			}
			wantCheck(t, fmt.Sprint("State of task ", at, ": ", v), w, api.ErrState, first)
		}
		for _, v := range []int{-1, 4, math.MinInt, math.MaxInt} {
			w := full()
			w.Tasks[at].Prio = v
			wantCheck(t, fmt.Sprint("Prio of task ", at, ": ", v), w, api.ErrState, at)
		}
		for _, v := range []int{-1, 2, 4, math.MinInt, math.MaxInt} {
			w := full()
			w.Tasks[at].Core = v
			wantCheck(t, fmt.Sprint("Core of task ", at, ": ", v), w, api.ErrState, at)
		}
	}
}

// E6: what a task has is of its kind: each frame is tried for each field.
func TestTasksFrames(t *testing.T) {
	for why, f := range map[string]struct {
		field func(t *api.Running) *int
		kind  int
	}{
		"Node":   {func(t *api.Running) *int { return &t.Node }, api.Node},
		"Space":  {func(t *api.Running) *int { return &t.Space }, api.Space},
		"Helper": {func(t *api.Running) *int { return &t.Helper }, api.Door},
	} {
		for v := -3; v < 27; v++ {
			w := full()
			*f.field(&w.Tasks[still]) = v
			want, at := api.ErrState, still
			if v == -1 || 0 <= v && v < 24 && w.Kinds[v] == f.kind {
				want, at = api.OK, -1
			}
			wantCheck(t, fmt.Sprint(why, " ", v), w, want, at)
		}
		for _, v := range []int{math.MinInt, math.MaxInt} {
			w := full()
			*f.field(&w.Tasks[still]) = v
			wantCheck(t, fmt.Sprint(why, " ", v), w, api.ErrState, still)
		}
	}
}

// E6: who owes whom.
func TestTasksOwe(t *testing.T) {
	// Nobody but who asks is owed: of the one who owes and the one who is owed the first is told.
	for v := -2; v < 26; v++ {
		w := full()
		w.Tasks[still].Owes = v
		want, at := api.ErrState, still
		switch {
		case v == -1:
			want, at = api.OK, -1
		case v == asks:
			at = asks
		case 0 <= v && v < 24 && w.Kinds[v] == api.Task:
			at = v
		}
		wantCheck(t, fmt.Sprint("owes ", v), w, want, at)
	}
	checkSpoiled(t, []spoiled{
		{"owes a number that is none", func(w *api.World) { w.Tasks[still].Owes = math.MinInt }, api.ErrState, still},
		{"owes a number above all", func(w *api.World) { w.Tasks[still].Owes = math.MaxInt }, api.ErrState, still},
		{"owes one who doesn't ask", func(w *api.World) { w.Tasks[runs].Owes = still; w.Tasks[asks].State = api.Still }, api.ErrState, runs},
		{"owes one who calls", func(w *api.World) { w.Tasks[runs].Owes = calls; w.Tasks[asks].State = api.Still }, api.ErrState, runs},
		{"owes, and is waiting", func(w *api.World) { w.Tasks[runs].Owes, w.Tasks[waits].Owes = -1, asks }, api.ErrState, waits},
		{"owed by two", func(w *api.World) { w.Tasks[calls].Owes = asks }, api.ErrState, asks},
		{"owed by nobody", func(w *api.World) { w.Tasks[runs].Owes = -1 }, api.ErrState, asks},
		{"owed, and still", func(w *api.World) { w.Tasks[asks].Owes, w.Tasks[runs].Owes, w.Tasks[asks].State = asks, -1, api.Still }, api.ErrState, asks},
		{"owed, told ahead of who owes", func(w *api.World) {
			w.Tasks[runs].Owes, w.Tasks[asks].State = -1, api.Still
			w.Tasks[still].Owes = listens
		}, api.ErrState, listens},
		{"asks, owed by one who asks and is owed by nobody", func(w *api.World) {
			w.Tasks[runs].Owes, w.Tasks[still].Owes, w.Tasks[still].State = -1, asks, api.Asking
		}, api.ErrState, still},
	})
}

// E6: where tasks stand.
func TestTasksStand(t *testing.T) {
	checkSpoiled(t, []spoiled{
		{"sends nowhere", func(w *api.World) { w.Tasks[sends].At = -1; w.Lines[door] = []int{calls} }, api.ErrState, sends},
		{"sends at a bell", func(w *api.World) {
			w.Tasks[sends].At = rung
			w.Lines[rung], w.Lines[door] = []int{sends}, []int{calls}
			w.Bits[rung] = 0
		}, api.ErrState, sends},
		{"calls at a bell", func(w *api.World) {
			w.Tasks[calls].At = rung
			w.Lines[rung], w.Lines[door] = []int{calls}, []int{sends}
			w.Bits[rung] = 0
		}, api.ErrState, calls},
		{"waits at a bell", func(w *api.World) {
			w.Tasks[waits].At = rung
			w.Lines[rung], w.Lines[desk] = []int{waits}, nil
			w.Bits[rung] = 0
		}, api.ErrState, waits},
		{"listens at a door", func(w *api.World) {
			w.Tasks[listens].At = door
			w.Lines[door] = []int{sends, calls, listens}
			w.Lines[bell] = nil
		}, api.ErrState, listens},
		{"sends at a page", func(w *api.World) {
			w.Tasks[sends].At = page
			w.Lines[page], w.Lines[door] = []int{sends}, []int{calls}
		}, api.ErrState, sends},
		{"sends at no frame", func(w *api.World) { w.Tasks[sends].At = 24 }, api.ErrState, sends},
		{"sends at the least number", func(w *api.World) { w.Tasks[sends].At = math.MinInt }, api.ErrState, sends},
		{"sends at the greatest number", func(w *api.World) { w.Tasks[sends].At = math.MaxInt }, api.ErrState, sends},
		{"sends, in no line", func(w *api.World) { w.Lines[door] = []int{calls} }, api.ErrState, sends},
		{"sends, in another line", func(w *api.World) { w.Lines[door] = []int{calls}; w.Lines[desk] = []int{sends, waits} }, api.ErrState, sends},
		{"sends at another door than its line's", func(w *api.World) { w.Tasks[sends].At = desk }, api.ErrState, sends},
		{"sends, in two lines", func(w *api.World) { w.Lines[desk] = []int{waits, sends} }, api.ErrState, sends},
		{"sends, in a page's line too", func(w *api.World) { w.Lines[page] = []int{sends} }, api.ErrState, sends},
		{"sends, twice in its line", func(w *api.World) { w.Lines[door] = []int{sends, calls, sends} }, api.ErrState, sends},
		{"calls, twice in its line", func(w *api.World) { w.Lines[door] = []int{sends, calls, calls} }, api.ErrState, calls},
		{"waits, twice in its line", func(w *api.World) { w.Lines[desk] = []int{waits, waits} }, api.ErrState, waits},
		{"listens, twice in its line", func(w *api.World) { w.Lines[bell] = []int{listens, listens} }, api.ErrState, listens},
		{"listens, in no line", func(w *api.World) { w.Lines[bell] = nil }, api.ErrState, listens},
		{"waits, in no line", func(w *api.World) { w.Lines[desk] = nil }, api.ErrState, waits},
		{"calls, in no line", func(w *api.World) { w.Lines[door] = []int{sends} }, api.ErrState, calls},
		{"is still, at a door", func(w *api.World) { w.Tasks[still].At = door }, api.ErrState, still},
		{"is still, at a number that is none", func(w *api.World) { w.Tasks[still].At = -2 }, api.ErrState, still},
		{"is still, in a line", func(w *api.World) { w.Lines[door] = []int{sends, calls, still} }, api.ErrState, still},
		{"is still, at a door and in its line", func(w *api.World) { w.Tasks[still].At = door; w.Lines[door] = []int{still} }, api.ErrState, sends},
		{"is still, at a bell and in its line", func(w *api.World) { w.Tasks[still].At = rung; w.Bits[rung] = 0; w.Lines[rung] = []int{still} }, api.ErrState, still},
		{"runs, at a door", func(w *api.World) { w.Tasks[runs].At = door }, api.ErrState, runs},
		{"runs, in a line", func(w *api.World) { w.Lines[bell] = []int{listens, runs} }, api.ErrState, runs},
		{"asks, at a door", func(w *api.World) { w.Tasks[asks].At = door }, api.ErrState, asks},
		{"asks, in a line", func(w *api.World) { w.Lines[desk] = []int{waits, asks} }, api.ErrState, asks},
	})
}

// E6: who is on a core, or next.
func TestTasksRun(t *testing.T) {
	checkSpoiled(t, []spoiled{
		{"ready, and nowhere", func(w *api.World) { w.Cores[0] = -1 }, api.ErrState, runs},
		{"ready, and not next", func(w *api.World) { w.Ready[6] = nil }, api.ErrState, next},
		{"on two cores", func(w *api.World) { w.Cores[1] = runs }, api.ErrState, runs},
		{"on a core, and next", func(w *api.World) { w.Ready[0] = []int{runs} }, api.ErrState, runs},
		{"next twice in a list", func(w *api.World) { w.Ready[6] = []int{next, next} }, api.ErrState, next},
		{"next in two lists", func(w *api.World) { w.Ready[5] = []int{next} }, api.ErrState, next},
		{"still, and on a core", func(w *api.World) { w.Cores[1] = still }, api.ErrState, still},
		{"still, and next", func(w *api.World) { w.Ready[7] = []int{still} }, api.ErrState, still},
		{"sends, and on a core", func(w *api.World) { w.Cores[1] = sends }, api.ErrState, sends},
		{"calls, and next", func(w *api.World) { w.Ready[0] = []int{calls} }, api.ErrState, calls},
		{"waits, and on a core", func(w *api.World) { w.Cores[1] = waits }, api.ErrState, waits},
		{"asks, and on a core", func(w *api.World) { w.Cores[1] = asks }, api.ErrState, asks},
		{"listens, and next", func(w *api.World) { w.Ready[0] = []int{listens} }, api.ErrState, listens},
	})
}

// E7: lines, and bits.
func TestLines(t *testing.T) {
	checkSpoiled(t, []spoiled{
		{"who is none, in a page's line", func(w *api.World) { w.Lines[page] = []int{23} }, api.ErrState, page},
		{"who is none, in the line of a frame that is nothing", func(w *api.World) { w.Lines[23] = []int{-1} }, api.ErrState, 23},
		{"who is none, in a task's line", func(w *api.World) { w.Lines[runs] = []int{24} }, api.ErrState, runs},
		{"bits of a page", func(w *api.World) { w.Bits[page] = 1 }, api.ErrState, page},
		{"bits of a door", func(w *api.World) { w.Bits[door] = 1 }, api.ErrState, door},
		{"bits of nothing", func(w *api.World) { w.Bits[0] = -1 }, api.ErrState, 0},
		{"bits below 0", func(w *api.World) { w.Bits[rung] = -1 }, api.ErrState, rung},
		{"bits above all", func(w *api.World) { w.Bits[rung] = 65536 }, api.ErrState, rung},
		{"bits of the least number", func(w *api.World) { w.Bits[rung] = math.MinInt }, api.ErrState, rung},
		{"bits of the greatest number", func(w *api.World) { w.Bits[rung] = math.MaxInt }, api.ErrState, rung},
		{"bits, and someone listens", func(w *api.World) { w.Bits[bell] = 1 }, api.ErrState, bell},
		{"a number that is no frame", func(w *api.World) { w.Lines[door] = []int{sends, 24, calls} }, api.ErrState, door},
		{"a number below all", func(w *api.World) { w.Lines[door] = []int{-1, sends, calls} }, api.ErrState, door},
		{"the least number", func(w *api.World) { w.Lines[door] = []int{sends, calls, math.MinInt} }, api.ErrState, door},
		{"the greatest number", func(w *api.World) { w.Lines[bell] = []int{listens, math.MaxInt} }, api.ErrState, bell},
		{"a frame that is no task", func(w *api.World) { w.Lines[desk] = []int{waits, page} }, api.ErrState, desk},
		{"a frame that is nothing", func(w *api.World) { w.Lines[bell] = []int{23, listens} }, api.ErrState, bell},
		{"waits behind who sends", func(w *api.World) {
			w.Lines[door], w.Lines[desk] = []int{sends, calls, waits}, nil
			w.Tasks[waits].At = door
		}, api.ErrState, door},
		{"sends behind who waits", func(w *api.World) {
			w.Lines[door], w.Lines[desk] = []int{calls}, []int{waits, sends}
			w.Tasks[sends].At = desk
		}, api.ErrState, desk},
		{"calls behind who waits", func(w *api.World) {
			w.Lines[door], w.Lines[desk] = []int{sends}, []int{waits, calls}
			w.Tasks[calls].At = desk
		}, api.ErrState, desk},
	})
}

// E8: who is on a core.
func TestCores(t *testing.T) {
	for _, v := range []int{-2, 0, page, 18, 23, 24, 65535, math.MinInt, math.MaxInt} {
		w := full()
		w.Cores[1] = v
		wantCheck(t, fmt.Sprint("on a core: ", v), w, api.ErrState, 1)
	}
	checkSpoiled(t, []spoiled{
		{"of another core", func(w *api.World) { w.Tasks[runs].Core = 1 }, api.ErrState, 0},
		{"on the other core", func(w *api.World) { w.Cores[0], w.Cores[1] = -1, runs }, api.ErrState, 1},
		{"next comes to the wrong core", func(w *api.World) { w.Cores[0], w.Ready[0], w.Ready[6] = next, []int{runs}, nil }, api.ErrState, 0},
	})
}

// E8: who is next.
func TestReady(t *testing.T) {
	for _, v := range []int{-2, -1, 0, page, 18, 23, 24, math.MinInt, math.MaxInt} {
		for at := range 8 {
			w := full()
			w.Ready[at] = append(w.Ready[at], v)
			wantCheck(t, fmt.Sprint("next: ", v), w, api.ErrState, at)
		}
	}
	// Task next is of core 1 and priority 2: it is next there, and in no other list.
	for at := range 8 {
		w := full()
		w.Ready[6] = nil
		w.Ready[at] = []int{next}
		if at == 6 {
			wantCheck(t, "in its list", w, api.OK, -1)
			continue
		}
		wantCheck(t, fmt.Sprint("in list ", at), w, api.ErrState, at)
	}
	checkSpoiled(t, []spoiled{
		{"of another priority", func(w *api.World) { w.Tasks[next].Prio = 1 }, api.ErrState, 6},
		{"of another core", func(w *api.World) { w.Tasks[next].Core = 0 }, api.ErrState, 6},
	})
}

// E9: entries of a space and of a table.
func TestEntries(t *testing.T) {
	for f := range 64 {
		for _, e := range []int{0, 0x4000, 0x8000, 0xc000} {
			w := full()
			w.Ram[16*space+15] = e + f
			want, at := api.ErrMap, 16*space+15
			if e+f == 0 || e+f == 0x8003 {
				want, at = api.OK, -1
			}
			wantCheck(t, fmt.Sprintf("an entry of a space: %x", e+f), w, want, at)
			w = full()
			w.Ram[16*table+15] = e + f
			want, at = api.ErrMap, 16*table+15
			if e+f == 0 || e >= 0x8000 && (f == page || f == page2) {
				want, at = api.OK, -1
			}
			wantCheck(t, fmt.Sprintf("an entry of a table: %x", e+f), w, want, at)
		}
	}
	for bit := range 6 {
		extra := 0x0400 << bit
		if extra >= 0x4000 {
			break
		}
		w := full()
		w.Ram[16*space] |= extra
		wantCheck(t, "an entry of a space with another bit", w, api.ErrMap, 16*space)
		w = full()
		w.Ram[16*table] |= extra
		wantCheck(t, "an entry of a table with another bit", w, api.ErrMap, 16*table)
	}
	// Entries are told ahead of what is remembered, though it is no more what the tables tell.
	w := full()
	w.Ram[16*table] = 0x8003
	wantCheck(t, "an entry ahead of a memory", w, api.ErrMap, 16*table)
}

// E9: what a core remembers.
func TestMemories(t *testing.T) {
	entry := func(space, page, frame int, write bool) func(w *api.World) {
		return func(w *api.World) {
			w.Ram[16*0] = 0x8003
			w.Tlbs[1] = append(w.Tlbs[1], api.Entry{Space: space, Page: page, Frame: frame, Write: write})
		}
	}
	checkSpoiled(t, []spoiled{
		{"what the table tells", entry(space, 0, page, false), api.OK, -1},
		{"another frame", entry(space, 0, page2, false), api.ErrMap, 1},
		{"a frame that is none", entry(space, 0, -1, false), api.ErrMap, 1},
		{"to be written, and may not", entry(space, 0, page, true), api.ErrMap, 1},
		{"not to be written, and may", func(w *api.World) { w.Tlbs[1][0].Write = false }, api.ErrMap, 1},
		{"a page that is not told", entry(space, 2, page, false), api.ErrMap, 1},
		{"a page that is not told, as nothing", entry(space, 2, 0, false), api.ErrMap, 1},
		{"a page of a table that is not told", entry(space, 16, 0, false), api.ErrMap, 1},
		{"the last page, not told", entry(space, 255, 0, false), api.ErrMap, 1},
		{"a page above all", entry(space, 256, page, false), api.ErrMap, 1},
		{"a page below 0", entry(space, -1, page, false), api.ErrMap, 1},
		{"a page of the least number", entry(space, math.MinInt, page, false), api.ErrMap, 1},
		{"a page of the greatest number", entry(space, math.MaxInt, page, false), api.ErrMap, 1},
		{"a page that is another one, if its number wraps round", entry(space, math.MinInt/8, page, false), api.ErrMap, 1},
		{"a space that is none", entry(-1, 0, page, false), api.ErrMap, 1},
		{"a space above all", entry(24, 0, page, false), api.ErrMap, 1},
		{"a space of the greatest number", entry(math.MaxInt, 0, page, false), api.ErrMap, 1},
		{"a node, whose words could be entries", entry(0, 0, page, false), api.ErrMap, 1},
		{"a table", entry(table, 0, page, false), api.ErrMap, 1},
		{"a page twice", entry(space, 1, page2, true), api.ErrMap, 1},
		{"a page twice, on the first core", func(w *api.World) { w.Tlbs[0] = append(w.Tlbs[0], w.Tlbs[0][0]) }, api.ErrMap, 0},
		{"a page once on each core", func(w *api.World) { w.Tlbs[1] = append(w.Tlbs[1], w.Tlbs[0][0]) }, api.OK, -1},
		{"too much", func(w *api.World) {
			for i := range 5 {
				w.Ram[16*table+8+i] = 0xc004
				w.Tlbs[1] = append(w.Tlbs[1], api.Entry{Space: space, Page: 8 + i, Frame: page, Write: true})
			}
			w.Tlbs[1] = w.Tlbs[1][1:]
		}, api.ErrMap, 1},
		{"as much as may be", func(w *api.World) {
			for i := range 4 {
				w.Ram[16*table+8+i] = 0xc004
				w.Tlbs[1] = append(w.Tlbs[1], api.Entry{Space: space, Page: 8 + i, Frame: page, Write: true})
			}
			w.Tlbs[1] = w.Tlbs[1][1:]
		}, api.OK, -1},
	})
}

// E9: the same page of two spaces may be remembered.
func TestMemoriesOfTwoSpaces(t *testing.T) {
	w := full()
	w.Kinds[23], w.Slots[24] = api.Space, key(api.Space, 23, 7, 0, -1)
	w.Ram[16*23] = 0x8003
	w.Tlbs[1] = []api.Entry{{Space: space, Page: 0, Frame: page}, {Space: 23, Page: 0, Frame: page}}
	wantCheck(t, "two spaces", w, api.OK, -1)
	w.Ram[16*23] = 0
	wantCheck(t, "two spaces, of which one tells nothing", w, api.ErrMap, 1)
}
