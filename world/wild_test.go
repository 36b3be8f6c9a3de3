package world_test

import (
	"math"
	"reflect"
	"slices"
	"testing"

	"keyhold/api"
	"keyhold/sample"
	"keyhold/world"
)

type die struct{ sample.Die }

// odd is a number that may be at an edge.
func (d *die) odd() int {
	edges := []int{math.MinInt, -65536, -2, -1, 0, 1, 3, 4, 7, 8, 9, 15, 16, 23, 24, 255, 256, 383, 384, 0x8003, 0xc004, 65535, 65536, 1000000, math.MaxInt}
	if d.N(2) == 0 {
		return d.N(26) - 1
	}
	return edges[d.N(len(edges))]
}

// spoil changes one number of a world, whichever.
func (d *die) spoil(w *api.World) {
	f, v := d.N(24), d.odd()
	switch s, r := &w.Slots[d.N(len(w.Slots))], &w.Tasks[f]; d.N(20) {
	case 0:
		w.Ram[d.N(len(w.Ram))] = v
	case 1:
		w.Kinds[f] = v
	case 2:
		*s = api.Slot{Key: api.Key{Kind: d.odd(), Base: d.odd(), Len: d.odd(), Mark: d.odd(), Rights: d.odd(), Badge: d.odd()}, From: v}
	case 3:
		s.From = v
	case 4:
		*s = key(d.N(9), d.N(24), d.N(8), 0, v)
	case 5:
		r.State = v
	case 6:
		r.Prio, r.Core = v, d.odd()
	case 7:
		r.Node, r.Space, r.Helper = v, d.odd(), d.odd()
	case 8:
		r.At = v
	case 9:
		r.Owes = v
	case 10:
		r.Regs[d.N(8)] = v
	case 11:
		w.Lines[f] = append(w.Lines[f], v)
	case 12:
		w.Bits[f] = v
	case 13:
		w.Cores[d.N(2)] = v
	case 14:
		at := d.N(8)
		w.Ready[at] = append(w.Ready[at], v)
	case 15:
		at := d.N(2)
		w.Tlbs[at] = append(w.Tlbs[at], api.Entry{Space: v, Page: d.odd(), Frame: d.odd()})
	case 16:
		w.Doms[d.N(2)] = v
	case 17:
		w.Time = v
	case 18:
		*r = api.Running{State: d.N(8), At: v, Owes: d.odd(), Core: d.N(3)}
	case 19:
		w.Slots[d.N(24)].From = v
	}
}

// Z1, Z2, Z3: whatever a world is, Check ends, tells an error of package api at a number that is there, the same each time, and changes nothing.
func TestWild(t *testing.T) {
	d := die{5}
	told := map[api.Errno]int{}
	for range 4000 {
		w := full()
		for range 1 + d.N(4) {
			d.spoil(&w)
		}
		before := clone(w)
		err := world.Check(w)
		if !reflect.DeepEqual(w, before) {
			t.Fatal("Check has written into the world")
		}
		what, at := api.Tell(err)
		told[what]++
		if again, there := api.Tell(world.Check(before)); again != what || there != at {
			t.Fatalf("Check tells %v, and then error %d at %d", err, again, there)
		}
		if at < -1 || at >= 384 {
			t.Fatalf("Check tells %v: there is no such number", err)
		}
	}
	for _, e := range []api.Errno{api.OK, api.ErrWord, api.ErrRange, api.ErrKind, api.ErrState, api.ErrMap} {
		if told[e] == 0 {
			t.Errorf("error %d was never told: these worlds ask too little", e)
		}
		delete(told, e)
	}
	if len(told) > 0 {
		t.Errorf("errors that Check doesn't have: %v", told)
	}
}

// Z1: lists of any lengths.
func TestWildLengths(t *testing.T) {
	d := die{7}
	for range 3000 {
		w := full()
		w.Ram, w.Slots = w.Ram[:384-d.N(2)*d.N(385)], w.Slots[:384-d.N(2)*d.N(385)]
		w.Kinds, w.Tasks = w.Kinds[:24-d.N(2)*d.N(25)], w.Tasks[:24-d.N(2)*d.N(25)]
		w.Lines, w.Bits = w.Lines[:24-d.N(2)*d.N(25)], w.Bits[:24-d.N(2)*d.N(25)]
		w.Cores, w.Ready, w.Tlbs = w.Cores[:2-d.N(2)*d.N(3)], w.Ready[:8-d.N(2)*d.N(9)], w.Tlbs[:2-d.N(2)*d.N(3)]
		w.Doms = w.Doms[:2-d.N(2)*d.N(3)]
		same := len(w.Ram) == 384 && len(w.Slots) == 384 && len(w.Kinds) == 24 && len(w.Tasks) == 24 && len(w.Lines) == 24 && len(w.Bits) == 24
		same = same && len(w.Cores) == 2 && len(w.Ready) == 8 && len(w.Tlbs) == 2 && len(w.Doms) > 0
		if err := world.Check(w); !same && err != error(api.ErrRange) || same && err != nil {
			t.Fatalf("lists of other lengths: %v", err)
		}
	}
}

// behind is the same list, with other numbers behind it in memory.
func behind[T any](l []T, more ...T) []T {
	return append(slices.Clone(l), more...)[:len(l)]
}

// Z2: what stands behind a list is not read.
func TestBehind(t *testing.T) {
	w := full()
	w.Ram, w.Kinds, w.Bits = behind(w.Ram, -1, -1), behind(w.Kinds, 9, 9), behind(w.Bits, -1, 1)
	w.Slots, w.Tasks = behind(w.Slots, api.Slot{From: 3}), behind(w.Tasks, api.Running{})
	w.Cores, w.Doms = behind(w.Cores, 99), behind(w.Doms, 99)
	for i, l := range w.Lines {
		w.Lines[i] = behind(l, runs, -5)
	}
	for i, l := range w.Ready {
		w.Ready[i] = behind(l, runs, -5)
	}
	for i, l := range w.Tlbs {
		w.Tlbs[i] = behind(l, api.Entry{}, api.Entry{}, api.Entry{}, api.Entry{})
	}
	w.Lines, w.Ready, w.Tlbs = behind(w.Lines, []int{1}), behind(w.Ready, []int{1}), behind(w.Tlbs, []api.Entry{{}})
	wantCheck(t, "with other things behind each list", w, api.OK, -1)
}
