package world_test

import (
	"math"
	"reflect"
	"slices"
	"testing"

	"keyhold/api"
	"keyhold/plain"
	"keyhold/sample"
	"keyhold/world"
)

// wantFault: is it this error at this number (at -1: bare; OK: none)?
func wantFault(t *testing.T, why string, err error, want api.Errno, at int) {
	t.Helper()
	switch f := err.(type) {
	case nil:
		if want != api.OK {
			t.Errorf("%s: no error, want error %d at %d", why, want, at)
		}
	case api.Errno:
		if f != want || at != -1 {
			t.Errorf("%s: bare error %d, want error %d at %d", why, f, want, at)
		}
	case *api.Fault:
		if f.Err != error(want) || f.At != at {
			t.Errorf("%s: %v, want error %d at %d", why, err, want, at)
		}
	default:
		t.Errorf("%s: %v is no error of package api", why, err)
	}
}

// wantCheck: Check answers this, of a world that it leaves as it was.
func wantCheck(t *testing.T, why string, w api.World, want api.Errno, at int) {
	t.Helper()
	before := clone(w)
	wantFault(t, why, world.Check(w), want, at)
	if !reflect.DeepEqual(w, before) {
		t.Errorf("%s: Check has written into the world", why)
	}
}

// clone is the same world in memory of its own.
func clone(w api.World) api.World {
	w.Ram, w.Kinds, w.Slots, w.Tasks = slices.Clone(w.Ram), slices.Clone(w.Kinds), slices.Clone(w.Slots), slices.Clone(w.Tasks)
	w.Bits, w.Cores, w.Doms = slices.Clone(w.Bits), slices.Clone(w.Cores), slices.Clone(w.Doms)
	w.Lines, w.Ready, w.Tlbs = slices.Clone(w.Lines), slices.Clone(w.Ready), slices.Clone(w.Tlbs)
	for i, l := range w.Lines {
		w.Lines[i] = slices.Clone(l)
	}
	for i, l := range w.Ready {
		w.Ready[i] = slices.Clone(l)
	}
	for i, l := range w.Tlbs {
		w.Tlbs[i] = slices.Clone(l)
	}
	return w
}

// Worlds, slots and frames as the tests name them.
var full, hollow, key, clay = sample.Full, sample.Hollow, sample.Key, sample.Clay

const (
	space, table, page, page2              = sample.Space, sample.Table, sample.Page, sample.Page2
	runs, next, sends, calls, waits        = sample.Runs, sample.Next, sample.Sends, sample.Calls, sample.Waits
	asks, listens, still, door, desk, bell = sample.Asks, sample.Listens, sample.Still, sample.Door, sample.Desk, sample.Bell
	rung                                   = sample.Rung
)

// spoiled: a way to make a world unsound, and what is then told.
type spoiled struct {
	why   string
	spoil func(w *api.World)
	want  api.Errno
	at    int
}

func checkSpoiled(t *testing.T, list []spoiled) {
	t.Helper()
	for _, c := range list {
		w := full()
		c.spoil(&w)
		wantCheck(t, c.why, w, c.want, c.at)
	}
}

// E1, E2: a new world, at the least and the greatest numbers, is all 0, blank, empty, and sound.
func TestNew(t *testing.T) {
	for _, c := range []struct {
		frames, cores int
		doms          []int
	}{
		{1, 1, []int{0}},
		{1, 1, []int{3}},
		{24, 4, []int{0, 1, 2, 3, 3, 2, 1, 0}},
		{24, 1, []int{2}},
		{1, 4, []int{1, 1, 1, 1, 1, 1, 1, 1}},
		{5, 3, []int{1, 0}},
	} {
		w, err := world.New(c.frames, c.cores, c.doms)
		if err != nil {
			t.Errorf("New(%d, %d, %v): %v", c.frames, c.cores, c.doms, err)
			continue
		}
		if want := hollow(c.frames, c.cores, c.doms...); !reflect.DeepEqual(w, want) {
			t.Errorf("New(%d, %d, %v): %v, want %v", c.frames, c.cores, c.doms, w, want)
		}
		wantCheck(t, "a new world", w, api.OK, -1)
	}
}

// E2: when there is none, and what is told first.
func TestNewNone(t *testing.T) {
	for _, c := range []struct {
		frames, cores int
		doms          []int
		want          api.Errno
		at            int
	}{
		{0, 1, []int{0}, api.ErrRange, -1},
		{25, 1, []int{0}, api.ErrRange, -1},
		{-1, 1, []int{0}, api.ErrRange, -1},
		{math.MinInt, 1, []int{0}, api.ErrRange, -1},
		{math.MaxInt, 1, []int{0}, api.ErrRange, -1},
		{1, 0, []int{0}, api.ErrRange, -1},
		{1, 5, []int{0}, api.ErrRange, -1},
		{1, -1, []int{0}, api.ErrRange, -1},
		{1, math.MinInt, []int{0}, api.ErrRange, -1},
		{1, math.MaxInt, []int{0}, api.ErrRange, -1},
		{1, 1, nil, api.ErrRange, -1},
		{1, 1, []int{}, api.ErrRange, -1},
		{1, 1, make([]int, 9), api.ErrRange, -1},
		{1, 1, []int{-1}, api.ErrRange, 0},
		{1, 1, []int{4}, api.ErrRange, 0},
		{24, 4, []int{0, 1, 2, 3, 3, 2, 1, 4}, api.ErrRange, 7},
		{24, 4, []int{3, 4, -1, 0}, api.ErrRange, 1},
		{24, 4, []int{0, 0, math.MinInt, math.MaxInt}, api.ErrRange, 2},
		// A number of frames, cores or domains that is none is told ahead of a domain that is none.
		{25, 1, []int{4}, api.ErrRange, -1},
		{1, 5, []int{4}, api.ErrRange, -1},
		{1, 1, []int{4, 0, 0, 0, 0, 0, 0, 0, 0}, api.ErrRange, -1},
	} {
		w, err := world.New(c.frames, c.cores, c.doms)
		if err == nil {
			t.Errorf("New(%d, %d, %v): no error", c.frames, c.cores, c.doms)
		}
		wantFault(t, "New", err, c.want, c.at)
		if !reflect.DeepEqual(w, api.World{}) {
			t.Errorf("New(%d, %d, %v): a world beside an error: %v", c.frames, c.cores, c.doms, w)
		}
	}
}

// Z2: what New answers is fresh, and the timetable is copied.
func TestNewIsFresh(t *testing.T) {
	all := []int{1, 2, 3, 9, 9}
	doms := all[:3]
	w, err := world.New(24, 4, doms)
	if err != nil {
		t.Fatal(err)
	}
	want := hollow(24, 4, 1, 2, 3)
	all[0], all[1], all[2] = 7, 7, 7
	if !reflect.DeepEqual(w, want) {
		t.Errorf("the world hangs on the timetable that was handed in")
	}
	w.Doms[0] = 0
	_ = append(w.Doms, 8, 8)
	if !slices.Equal(all, []int{7, 7, 7, 9, 9}) {
		t.Errorf("the timetable that was handed in is written into: %v", all)
	}
	// Each list is filled with marks to its very end: if two shared memory, one would have the other's.
	numbers := [][]int{w.Ram, w.Kinds, w.Bits, w.Cores, w.Doms}
	for i, l := range numbers {
		fill(l, 100+i)
	}
	for i, l := range numbers {
		if l = l[:cap(l)]; slices.ContainsFunc(l, func(v int) bool { return v != 100+i }) {
			t.Errorf("list %d shares memory with another one", i)
		}
	}
	again, _ := world.New(24, 4, []int{1, 2, 3})
	if !reflect.DeepEqual(again, want) {
		t.Errorf("a second world shares memory with the first")
	}
}

func fill(l []int, v int) {
	l = l[:cap(l)]
	for i := range l {
		l[i] = v
	}
}

// A world with a task in each state is sound, as is one in which all is as great as may be.
func TestCheckSound(t *testing.T) {
	wantCheck(t, "full", full(), api.OK, -1)
	for _, c := range []struct {
		why   string
		alter func(w *api.World)
	}{
		{"time 0", func(w *api.World) { w.Time = 0 }},
		{"last time", func(w *api.World) { w.Time = 1000000 }},
		{"words of a page are any", func(w *api.World) { w.Ram[16*page], w.Ram[16*page+15], w.Ram[383] = 65535, 1, 65535 }},
		{"words of nodes and tasks are any", func(w *api.World) { w.Ram[0], w.Ram[16*runs], w.Ram[16*door] = 1, 0x8004, 0xffff }},
		{"keys without rights", func(w *api.World) { w.Slots[22].Key.Rights = 0 }},
		{"a key from one with the same rights", func(w *api.World) { w.Slots[21].Key.Rights = 3 }},
		{"a key from another of badge 0", func(w *api.World) { w.Slots[20].Key.Badge, w.Slots[21].Key.Badge = 0, 9 }},
		{"clay makes keys with fewer rights", func(w *api.World) { w.Slots[4].Key.Rights = 0 }},
		{"clay makes keys with more rights", func(w *api.World) { w.Slots[1].Key.Rights = 0 }},
		{"clay makes keys with badges", func(w *api.World) { w.Slots[17].Key.Badge = 65535 }},
		{"more keys out of one clay to one frame", func(w *api.World) { w.Slots[30] = key(api.Page, page, 7, 0, 1) }},
		{"a key made from none", func(w *api.World) { w.Slots[7].From = -1 }},
		{"a key in the other node", func(w *api.World) { w.Slots[31], w.Slots[6] = w.Slots[6], api.Slot{From: -1} }},
		{"clay in the other node", func(w *api.World) { w.Slots[24] = clay(23, 1, 0) }},
		{"used frames that are nothing", func(w *api.World) { w.Slots[19].Key.Mark = 2 }},
		{"something in no clay", func(w *api.World) { w.Kinds[23] = api.Page; w.Slots[25] = key(api.Page, 23, 7, 0, -1) }},
		{"the last used frame of a clay", func(w *api.World) {
			w.Kinds[22], w.Slots[19].Key.Mark = api.Page, 2
			w.Slots[25] = key(api.Page, 22, 7, 0, 19)
		}},
		{"the first frame of a clay", func(w *api.World) {
			w.Kinds[21], w.Slots[19].Key.Mark = api.Page, 1
			w.Slots[25] = key(api.Page, 21, 7, 0, 19)
		}},
		{"a task without node and space", func(w *api.World) { w.Tasks[still].Node, w.Tasks[still].Space = -1, -1 }},
		{"a task of each number as great as may be", func(w *api.World) {
			s := &w.Tasks[still]
			s.Prio, s.Core, s.Dom, s.Pc, s.Word, s.Badge, s.Helper = 3, 1, 3, 65535, 65535, 65535, desk
		}},
		{"one who calls owes", func(w *api.World) { w.Tasks[runs].Owes, w.Tasks[calls].Owes = -1, asks }},
		{"one who is still owes", func(w *api.World) { w.Tasks[runs].Owes, w.Tasks[still].Owes = -1, asks }},
		{"one who listens owes", func(w *api.World) { w.Tasks[runs].Owes, w.Tasks[listens].Owes = -1, asks }},
		{"one who asks owes itself", func(w *api.World) { w.Tasks[runs].Owes, w.Tasks[asks].Owes = -1, asks }},
		{"two who ask owe each other", func(w *api.World) {
			w.Tasks[runs].Owes, w.Tasks[asks].Owes, w.Tasks[still].Owes = -1, still, asks
			w.Tasks[still].State = api.Asking
		}},
		{"all wait at one door", func(w *api.World) {
			for _, t := range []int{sends, calls} {
				w.Tasks[t].State, w.Tasks[t].At = api.Waiting, desk
			}
			w.Lines[door], w.Lines[desk] = nil, []int{calls, waits, sends}
		}},
		{"who calls stands ahead of who sends", func(w *api.World) { w.Lines[door] = []int{calls, sends} }},
		{"a bell that is not rung", func(w *api.World) { w.Bits[rung] = 0 }},
		{"a bell that is rung a little", func(w *api.World) { w.Bits[rung] = 1 }},
		{"nobody runs", func(w *api.World) { w.Cores[0] = -1; w.Ready[0] = []int{runs} }},
		{"one more runs", func(w *api.World) { w.Cores[1] = next; w.Ready[6] = nil }},
		{"one more is next", func(w *api.World) {
			s := &w.Tasks[still]
			s.State, s.Prio = api.Ready, 2
			w.Ready[6] = []int{still, next}
		}},
		{"who runs is of any domain and priority", func(w *api.World) { w.Tasks[runs].Dom, w.Tasks[runs].Prio = 2, 3 }},
		{"all entries of a space", func(w *api.World) {
			for i := range 16 {
				w.Ram[16*space+i] = 0x8003
			}
		}},
		{"all entries of a table", func(w *api.World) {
			for i := range 14 {
				w.Ram[16*table+2+i] = 0xc004
			}
		}},
		{"a core remembers as much as it may", func(w *api.World) {
			w.Ram[16*space+15], w.Ram[16*table+15] = 0x8003, 0xc004
			w.Tlbs[1] = []api.Entry{
				{Space: space, Page: 255, Frame: page, Write: true}, {Space: space, Page: 1, Frame: page2, Write: true},
				{Space: space, Page: 0, Frame: page}, {Space: space, Page: 15, Frame: page, Write: true},
			}
		}},
		{"a page that is told, and not remembered", func(w *api.World) { w.Tlbs[0], w.Tlbs[1] = nil, nil }},
	} {
		w := full()
		c.alter(&w)
		wantCheck(t, c.why, w, api.OK, -1)
	}
}

// The greatest and the least worlds are sound; greater and lesser ones are none.
func TestCheckCounts(t *testing.T) {
	for _, c := range []struct {
		frames, cores, doms int
		want                api.Errno
	}{
		{1, 1, 1, api.OK}, {24, 4, 8, api.OK}, {24, 1, 1, api.OK}, {1, 4, 1, api.OK}, {1, 1, 8, api.OK},
		{0, 1, 1, api.ErrRange}, {25, 1, 1, api.ErrRange}, {1, 0, 1, api.ErrRange}, {1, 5, 1, api.ErrRange},
		{1, 1, 0, api.ErrRange}, {1, 1, 9, api.ErrRange}, {0, 0, 0, api.ErrRange}, {25, 5, 9, api.ErrRange},
	} {
		wantCheck(t, "counts", hollow(c.frames, c.cores, make([]int, c.doms)...), c.want, -1)
	}
	wantCheck(t, "no lists at all", api.World{}, api.ErrRange, -1)
	wantCheck(t, "no lists, but a time", api.World{Time: 5}, api.ErrRange, -1)
}

// E3: lists that are too short (the rest stands behind them in memory) or too long, and the time.
func TestCheckRange(t *testing.T) {
	checkSpoiled(t, []spoiled{
		{"Ram is short", func(w *api.World) { w.Ram = w.Ram[:383] }, api.ErrRange, -1},
		{"Ram is a frame too short", func(w *api.World) { w.Ram = w.Ram[:368] }, api.ErrRange, -1},
		{"Ram is long", func(w *api.World) { w.Ram = append(w.Ram, 0) }, api.ErrRange, -1},
		{"Ram is a frame too long", func(w *api.World) { w.Ram = append(w.Ram, make([]int, 16)...) }, api.ErrRange, -1},
		{"Ram is none", func(w *api.World) { w.Ram = nil }, api.ErrRange, -1},
		{"Kinds is short", func(w *api.World) { w.Kinds = w.Kinds[:23] }, api.ErrRange, -1},
		{"Kinds is long", func(w *api.World) { w.Kinds = append(w.Kinds, 0) }, api.ErrRange, -1},
		{"Kinds is none", func(w *api.World) { w.Kinds = nil }, api.ErrRange, -1},
		{"Slots is short", func(w *api.World) { w.Slots = w.Slots[:383] }, api.ErrRange, -1},
		{"Slots is long", func(w *api.World) { w.Slots = append(w.Slots, api.Slot{From: -1}) }, api.ErrRange, -1},
		{"Slots is none", func(w *api.World) { w.Slots = nil }, api.ErrRange, -1},
		{"Tasks is short", func(w *api.World) { w.Tasks = w.Tasks[:23] }, api.ErrRange, -1},
		{"Tasks is long", func(w *api.World) { w.Tasks = append(w.Tasks, plain.Blank()) }, api.ErrRange, -1},
		{"Tasks is none", func(w *api.World) { w.Tasks = nil }, api.ErrRange, -1},
		{"Lines is short", func(w *api.World) { w.Lines = w.Lines[:23] }, api.ErrRange, -1},
		{"Lines is long", func(w *api.World) { w.Lines = append(w.Lines, nil) }, api.ErrRange, -1},
		{"Lines is none", func(w *api.World) { w.Lines = nil }, api.ErrRange, -1},
		{"Bits is short", func(w *api.World) { w.Bits = w.Bits[:23] }, api.ErrRange, -1},
		{"Bits is long", func(w *api.World) { w.Bits = append(w.Bits, 0) }, api.ErrRange, -1},
		{"Bits is none", func(w *api.World) { w.Bits = nil }, api.ErrRange, -1},
		{"Cores is short", func(w *api.World) { w.Cores = w.Cores[:1] }, api.ErrRange, -1},
		{"Cores is long", func(w *api.World) { w.Cores = append(w.Cores, -1) }, api.ErrRange, -1},
		{"Cores is none", func(w *api.World) { w.Cores = nil }, api.ErrRange, -1},
		{"Ready is short", func(w *api.World) { w.Ready = w.Ready[:7] }, api.ErrRange, -1},
		{"Ready is of one core", func(w *api.World) { w.Ready = w.Ready[:4] }, api.ErrRange, -1},
		{"Ready is long", func(w *api.World) { w.Ready = append(w.Ready, nil) }, api.ErrRange, -1},
		{"Ready is none", func(w *api.World) { w.Ready = nil }, api.ErrRange, -1},
		{"Tlbs is short", func(w *api.World) { w.Tlbs = w.Tlbs[:1] }, api.ErrRange, -1},
		{"Tlbs is long", func(w *api.World) { w.Tlbs = append(w.Tlbs, nil) }, api.ErrRange, -1},
		{"Tlbs is none", func(w *api.World) { w.Tlbs = nil }, api.ErrRange, -1},
		{"Doms is none", func(w *api.World) { w.Doms = nil }, api.ErrRange, -1},
		{"Doms is long", func(w *api.World) { w.Doms = make([]int, 9) }, api.ErrRange, -1},
		{"Time below 0", func(w *api.World) { w.Time = -1 }, api.ErrRange, -1},
		{"Time above all", func(w *api.World) { w.Time = 1000001 }, api.ErrRange, -1},
		{"Time of least number", func(w *api.World) { w.Time = math.MinInt }, api.ErrRange, -1},
		{"Time of greatest number", func(w *api.World) { w.Time = math.MaxInt }, api.ErrRange, -1},
	})
}

// E3: words, kinds and domains that are none.
func TestCheckNumbers(t *testing.T) {
	for _, v := range []int{-1, 65536, math.MinInt, math.MaxInt} {
		for _, at := range []int{0, 16 * space, 16*page + 3, 383} {
			w := full()
			w.Ram[at] = v
			wantCheck(t, "a word", w, api.ErrWord, at)
		}
	}
	for _, v := range []int{-1, api.Clay, 9, math.MinInt, math.MaxInt} {
		for _, at := range []int{0, page, 18, 23} {
			w := full()
			w.Kinds[at] = v
			wantCheck(t, "a kind", w, api.ErrKind, at)
		}
	}
	for _, v := range []int{-1, 4, math.MinInt, math.MaxInt} {
		for at := range 2 {
			w := full()
			w.Doms[at] = v
			wantCheck(t, "a domain", w, api.ErrRange, at)
		}
	}
}

// oneOfEach has, in the order of E3, a way to spoil each list that spoils no other one.
func oneOfEach() []spoiled {
	return []spoiled{
		{"Time", func(w *api.World) { w.Time = -1 }, api.ErrRange, -1},
		{"words", func(w *api.World) { w.Ram[383] = -1 }, api.ErrWord, 383},
		{"kinds", func(w *api.World) { w.Kinds[23] = 9 }, api.ErrKind, 23},
		{"domains", func(w *api.World) { w.Doms[1] = 4 }, api.ErrRange, 1},
		{"slots", func(w *api.World) { w.Slots[380].From = 0 }, api.ErrState, 380},
		{"frames", func(w *api.World) { w.Slots[30] = clay(22, 1, 0) }, api.ErrState, 22},
		{"tasks", func(w *api.World) { w.Tasks[20].Pc = 1 }, api.ErrState, 20},
		{"lines", func(w *api.World) { w.Bits[desk] = 1 }, api.ErrState, desk},
		{"cores", func(w *api.World) { w.Cores[1] = 23 }, api.ErrState, 1},
		{"ready", func(w *api.World) { w.Ready[3] = []int{23} }, api.ErrState, 3},
		{"entries", func(w *api.World) { w.Ram[40] = 1 }, api.ErrMap, 40},
		{"memories", func(w *api.World) { w.Tlbs[0][0].Frame = page2 }, api.ErrMap, 0},
	}
}

// E3: of several things that are not well the first one is told.
func TestCheckOrder(t *testing.T) {
	each := oneOfEach()
	checkSpoiled(t, each)
	for i, first := range each {
		all := full()
		for _, later := range each[i:] {
			w := full()
			later.spoil(&w)
			first.spoil(&w)
			wantCheck(t, first.why+" ahead of "+later.why, w, first.want, first.at)
			later.spoil(&all)
		}
		wantCheck(t, first.why+" ahead of all others", all, first.want, first.at)
	}
}

// E3: of one list the first number is told.
func TestCheckFirstNumber(t *testing.T) {
	checkSpoiled(t, []spoiled{
		{"words", func(w *api.World) { w.Ram[5], w.Ram[4], w.Ram[6] = -1, 65536, -1 }, api.ErrWord, 4},
		{"kinds", func(w *api.World) { w.Kinds[20], w.Kinds[19] = 9, 1 }, api.ErrKind, 19},
		{"domains", func(w *api.World) { w.Doms = []int{0, 5, -1} }, api.ErrRange, 1},
		{"slots", func(w *api.World) { w.Slots[50].From, w.Slots[49].From = 2, -2 }, api.ErrState, 49},
		{"frames", func(w *api.World) { w.Slots[30] = clay(21, 2, 0) }, api.ErrState, 21},
		{"tasks", func(w *api.World) { w.Tasks[20].Pc, w.Tasks[8].Pc = 1, -1 }, api.ErrState, 8},
		{"lines", func(w *api.World) { w.Bits[20], w.Bits[3] = 1, 1 }, api.ErrState, 3},
		{"cores", func(w *api.World) { w.Cores[0], w.Cores[1] = -2, 23; w.Ready[0] = []int{runs} }, api.ErrState, 0},
		{"ready", func(w *api.World) { w.Ready[7], w.Ready[1] = []int{23}, []int{-1} }, api.ErrState, 1},
		{"entries", func(w *api.World) { w.Ram[62], w.Ram[33] = 1, 1 }, api.ErrMap, 33},
		{"memories", func(w *api.World) { w.Tlbs[1][0].Page, w.Tlbs[0][1].Page = 2, 2 }, api.ErrMap, 0},
	})
}
