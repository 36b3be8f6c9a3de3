package parts_test

import (
	"fmt"
	"math"
	"slices"
	"testing"

	"keyhold/api"
	"keyhold/boot"
	"keyhold/parts"
	"keyhold/sample"
	"keyhold/world"
)

// Frames of an isle, from its first one on.
const (
	node = iota
	space
	table
	page
	task
	mate
	door
	bell
	size
)

// north and south are where the second isle and the third begin.
const (
	north = size
	south = 2 * size
)

// kinds of the frames of an isle.
func kinds() []int {
	return []int{api.Node, api.Space, api.Table, api.Page, api.Task, api.Task, api.Door, api.Bell}
}

// isle: from a frame on there is a node, and all that it has the keys to.
func isle(w *api.World, at int) {
	for n, kind := range kinds() {
		w.Kinds[at+n] = kind
		w.Slots[16*at+n] = sample.Key(kind, at+n, 7, 0, -1)
	}
}

// isles is a world of three isles that nothing joins.
func isles() api.World {
	w := sample.Hollow(24, 2, 0, 1)
	isle(&w, 0)
	isle(&w, north)
	isle(&w, south)
	return w
}

// shore is a world of two isles; behind them nothing is.
func shore() api.World {
	w := sample.Hollow(24, 2, 0, 1)
	isle(&w, 0)
	isle(&w, north)
	return w
}

// leasts are parts that begin at these frames, and end ahead of the next one.
func leasts(at ...int) []int {
	var l []int
	for frame := range 24 {
		if slices.Contains(at, frame) {
			l = append(l, frame)
		} else {
			l = append(l, l[frame-1])
		}
	}
	return l
}

// isOf: are the parts of a world these? It has to be sound; it is not written into, and what comes out is fresh.
func isOf(t *testing.T, why string, begin api.World, want []int) {
	t.Helper()
	if err := world.Check(begin); err != nil {
		t.Fatalf("%s: this world to begin with is not sound: %v", why, err)
	}
	w, whole := sample.Roomy(begin)
	before := fmt.Sprint(whole)
	got, err := parts.Of(w)
	if err != nil || !slices.Equal(got, want) {
		t.Errorf("%s: %v, %v, want %v", why, got, err, want)
	}
	for n := range got {
		got[n] = 99
	}
	if fmt.Sprint(whole) != before {
		t.Errorf("%s: what was handed in is written into", why)
	}
	if again, _ := parts.Of(w); !slices.Equal(again, want) {
		t.Errorf("%s: what was answered is kept", why)
	}
}

// join is something done to a world, by which frames are of one part.
type join struct {
	why  string
	do   sample.Change
	want []int
}

// joinsOf tries each of them, alone.
func joinsOf(t *testing.T, begin func() api.World, all []join) {
	t.Helper()
	for _, j := range all {
		w := begin()
		j.do(&w)
		isOf(t, j.why, w, j.want)
	}
}

// N1: where nothing is each frame is a part of its own; things on an isle are of one, and isles are apart.
func TestApart(t *testing.T) {
	var all []int
	for frames := 1; frames <= api.MaxFrames; frames++ {
		all = append(all, frames-1)
		isOf(t, "nothing is there", sample.Hollow(frames, 1, 0), all)
	}
	isOf(t, "isles", isles(), leasts(0, north, south))
	isOf(t, "two isles, and nothing", shore(), leasts(0, 8, 16, 17, 18, 19, 20, 21, 22, 23))
	isOf(t, "a full world", sample.Full(), leasts(0, 23))
}

// N1: the document's world.
func TestDocument(t *testing.T) {
	w, err := boot.Read(sample.Document)
	if err != nil {
		t.Fatal(err)
	}
	isOf(t, "the document's world", w, []int{0, 0, 0, 0, 0, 0, 0, 0, 0, 0, 0, 0, 0, 0, 0, 0, 0, 17, 18, 19, 20, 21, 22, 23})
}

// N1: a frame, and those to which one of its slots has a key.
func TestKeys(t *testing.T) {
	first, last := leasts(0, south), leasts(0, north)
	key := func(slot, to int) sample.Change {
		return func(w *api.World) { w.Slots[slot] = sample.Key(w.Kinds[to], to, 0, 0, -1) }
	}
	for n, kind := range kinds() {
		joinsOf(t, isles, []join{
			{fmt.Sprint("a key to a thing of kind ", kind), key(9, north+n), first},
			{fmt.Sprint("a key back, to one of kind ", kind), key(16*north+9, n), first},
			{fmt.Sprint("a key of the last isle, to kind ", kind), key(16*south+15, north+n), last},
		})
	}
	joinsOf(t, isles, []join{
		{"a key with a badge", func(w *api.World) { w.Slots[15] = sample.Key(api.Door, north+door, 7, 9, -1) }, first},
		{"a key in the first slot", func(w *api.World) {
			w.Slots[8] = w.Slots[0]
			w.Slots[0] = sample.Key(api.Bell, north+bell, 7, 9, -1)
		}, first},
		{"the isle's own keys again", func(w *api.World) { copy(w.Slots[8:16], w.Slots[:8]) }, leasts(0, north, south)},
		{"a thing whose key another isle has alone", func(w *api.World) {
			w.Slots[16*north+9] = w.Slots[bell]
			w.Slots[bell] = sample.Key(api.Door, door, 7, 0, -1)
		}, []int{0, 0, 0, 0, 0, 0, 0, 7, 7, 7, 7, 7, 7, 7, 7, 7, 16, 16, 16, 16, 16, 16, 16, 16}},
	})
}

// N1: of Clay all Len of them: used, not used, and those that are nothing any more.
func TestClay(t *testing.T) {
	clay := func(slot, base, length, used int) sample.Change {
		return func(w *api.World) { w.Slots[slot] = sample.Clay(base, length, used) }
	}
	joinsOf(t, shore, []join{
		{"one frame of clay", clay(16*north+9, 16, 1, 0), leasts(0, 8, 17, 18, 19, 20, 21, 22, 23)},
		{"clay to the end", clay(16*north+9, 16, 8, 0), leasts(0, 8)},
		{"clay whose frames were something", clay(16*north+9, 17, 6, 6), []int{0, 0, 0, 0, 0, 0, 0, 0, 8, 8, 8, 8, 8, 8, 8, 8, 16, 8, 8, 8, 8, 8, 8, 23}},
		{"clay of the first isle", clay(9, 16, 7, 3), []int{0, 0, 0, 0, 0, 0, 0, 0, 8, 8, 8, 8, 8, 8, 8, 8, 0, 0, 0, 0, 0, 0, 0, 23}},
	})
	joinsOf(t, isles, []join{
		{"clay of which another isle is", clay(16*north+9, south, 8, 8), leasts(0, north)},
		{"clay of which one's own isle is", clay(16*north+9, north, 8, 8), leasts(0, north, south)},
		{"clay of which two isles are, of the one", clay(16*north+9, south-1, 2, 2), leasts(0, north)},
		{"clay of which two isles are, of a third", clay(9, south-1, 2, 2), leasts(0)},
		{"clay with no rights", func(w *api.World) {
			w.Slots[9] = sample.Clay(north, 1, 1)
			w.Slots[9].Key.Rights = 0
		}, leasts(0, south)},
	})
}

// N1: the frames of a slot and of that from which it was made.
func TestMadeFrom(t *testing.T) {
	joinsOf(t, isles, []join{
		{"a key that was made from another isle's", func(w *api.World) {
			w.Slots[16*south+12] = sample.Key(api.Page, north+page, 1, 0, 16*north+page)
		}, leasts(0, north)},
		{"a thing that was made out of another isle's clay", func(w *api.World) {
			w.Slots[16*north+9] = sample.Clay(south+page, 2, 1)
			w.Kinds[south+task], w.Slots[16*south+task] = api.None, sample.Key(api.Page, south+page, 1, 0, 16*north+9)
			w.Slots[16*south+page].From = 16*north + 9
		}, leasts(0, north)},
	})
}

// N1: a Table, a Space, and those that their entries tell, from the first entry to the last.
func TestEntries(t *testing.T) {
	ram := func(frame, n, word int) sample.Change {
		return func(w *api.World) { w.Ram[16*frame+n] = word }
	}
	for n := range 16 {
		joinsOf(t, isles, []join{
			{fmt.Sprint("a space tells a table at ", n), ram(space, n, 0x8000+north+table), leasts(0, south)},
			{fmt.Sprint("a table tells a page at ", n), ram(north+table, n, 0x8000+page), leasts(0, south)},
			{fmt.Sprint("one that may be written at ", n), ram(south+table, n, 0xc000+north+page), leasts(0, north)},
			{fmt.Sprint("a table tells its own page at ", n), ram(table, n, 0xc000+page), leasts(0, north, south)},
			{fmt.Sprint("a space tells its own table at ", n), ram(south+space, n, 0x8000+south+table), leasts(0, north, south)},
		})
	}
}

// N1: a task, and its Node, Space, Helper, At, Owes.
func TestTasks(t *testing.T) {
	joinsOf(t, isles, []join{
		{"its node", func(w *api.World) { w.Tasks[task].Node = north + node }, leasts(0, south)},
		{"its space", func(w *api.World) { w.Tasks[mate].Space = north + space }, leasts(0, south)},
		{"its helper", func(w *api.World) { w.Tasks[south+task].Helper = north + door }, leasts(0, north)},
		{"where it sends", func(w *api.World) { sample.Stand(w, task, north+door, api.Sending) }, leasts(0, south)},
		{"where it calls", func(w *api.World) { sample.Stand(w, north+mate, door, api.Calling) }, leasts(0, south)},
		{"where it waits", func(w *api.World) { sample.Stand(w, south+task, north+door, api.Waiting) }, leasts(0, north)},
		{"where it listens", func(w *api.World) { sample.Stand(w, north+task, south+bell, api.Listening) }, leasts(0, north)},
		{"whom it owes", func(w *api.World) { sample.Ask(w, task, north+task) }, leasts(0, south)},
		{"who owes it", func(w *api.World) { sample.Ask(w, south+mate, north+task) }, leasts(0, north)},
		{"all of its own", func(w *api.World) {
			w.Tasks[north+task].Node, w.Tasks[north+task].Space, w.Tasks[north+task].Helper = north+node, north+space, north+door
			sample.Stand(w, north+task, north+door, api.Calling)
			sample.Ask(w, mate, task)
		}, leasts(0, north, south)},
	})
}

// N1: what is named nowhere there joins nothing.
func TestJoinsNothing(t *testing.T) {
	apart := leasts(0, north, south)
	joinsOf(t, isles, []join{
		{"words that look like entries", func(w *api.World) {
			for frame, kind := range w.Kinds {
				if kind != api.Table && kind != api.Space {
					for n := range 16 {
						w.Ram[16*frame+n] = 0x8000 + (frame+8)%24
					}
				}
			}
		}, apart},
		{"words, badges, registers", func(w *api.World) {
			w.Slots[9] = sample.Key(api.Door, door, 7, north, -1)
			r := &w.Tasks[task]
			r.Regs, r.Pc, r.Word, r.Badge = [8]int{8, 9, 10, 11, 12, 13, 14, 15}, north, north, north
		}, apart},
		{"one domain, one core, one list of Ready", func(w *api.World) {
			sample.Queue(w, task, 0, 1, 2)
			sample.Queue(w, north+task, 0, 1, 2)
			sample.Queue(w, south+task, 0, 1, 2)
			sample.Run(w, mate, 0, 2)
			sample.Run(w, north+mate, 1, 2)
		}, apart},
		{"what one core remembers", func(w *api.World) {
			for at := 0; at < 24; at += size {
				w.Ram[16*(at+space)], w.Ram[16*(at+table)] = 0x8000+at+table, 0x8000+at+page
				w.Tlbs[0] = append(w.Tlbs[0], api.Entry{Space: at + space, Page: 0, Frame: at + page})
			}
		}, apart},
		{"bells that are rung", func(w *api.World) { w.Bits[bell], w.Bits[north+bell] = 8, 1 }, apart},
	})
}

// N1: what is of one part with the same one, in whatever order it is joined.
func TestOfOneWithTheSame(t *testing.T) {
	key := func(w *api.World, node, slot, to int) {
		w.Slots[16*node+slot] = sample.Key(w.Kinds[to], to, 1, 0, -1)
	}
	joinsOf(t, isles, []join{
		{"the first with the last, the last with the second", func(w *api.World) { key(w, 0, 9, south+door); key(w, south, 9, north+bell) }, leasts(0)},
		{"the second with the last, the last with the first", func(w *api.World) { key(w, north, 9, south+door); key(w, south, 9, bell) }, leasts(0)},
		{"the last with both", func(w *api.World) { key(w, south, 9, north+door); key(w, south, 10, bell) }, leasts(0)},
		{"by a key, and by a table", func(w *api.World) { key(w, north, 9, south+door); w.Ram[16*table+3] = 0x8000 + south + page }, leasts(0)},
		{"by a table, and by a task", func(w *api.World) {
			w.Ram[16*(south+table)+3] = 0x8000 + north + page
			w.Tasks[north+task].Helper = door
		}, leasts(0)},
	})
	long := sample.Hollow(24, 1, 0)
	for frame := range 24 {
		long.Kinds[frame] = api.Node
		long.Slots[16*frame] = sample.Key(api.Node, (frame*5+7)%24, 1, 0, -1)
	}
	ring := make([]int, 24)
	for frame := range ring {
		ring[frame] = least(frame, func(f int) int { return (f*5 + 7) % 24 })
	}
	isOf(t, "nodes that have each other's keys", long, ring)
	for frame := range 24 {
		long.Slots[16*frame] = sample.Key(api.Node, (frame+7)%24, 1, 0, -1)
	}
	isOf(t, "nodes in one ring", long, leasts(0))
}

// least is the least frame of a ring.
func least(of int, next func(frame int) int) int {
	best := of
	for f := next(of); f != of; f = next(f) {
		best = min(best, f)
	}
	return best
}

// unsound are worlds that are not.
func unsound() []api.World {
	var all []api.World
	for _, change := range []sample.Change{
		func(w *api.World) { *w = api.World{} },
		func(w *api.World) { w.Ram[3] = 65536 },
		func(w *api.World) { w.Time = -1 },
		func(w *api.World) { w.Slots[9].From = math.MaxInt },
		func(w *api.World) { w.Slots[9] = sample.Key(api.Door, 99, 7, 0, -1) },
		func(w *api.World) { w.Tasks[task].Node = math.MinInt },
		func(w *api.World) { w.Cores[0] = 77 },
		func(w *api.World) { w.Ready[0] = []int{-5} },
		func(w *api.World) { w.Lines = w.Lines[:20] },
		func(w *api.World) { w.Ram[16*table] = 0x8000 + 1000 },
		func(w *api.World) { w.Ram[16*space] = 0x8000 + page },
	} {
		w := isles()
		change(&w)
		all = append(all, w)
	}
	return all
}

// N1: of what is not sound nothing is told.
func TestOfUnsound(t *testing.T) {
	for n, w := range unsound() {
		if got, err := parts.Of(w); err != error(api.ErrState) || len(got) != 0 {
			t.Errorf("world %d: %v, %v", n, got, err)
		}
	}
}
