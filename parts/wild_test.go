package parts_test

import (
	"fmt"
	"slices"
	"testing"

	"keyhold/api"
	"keyhold/parts"
	"keyhold/sample"
	"keyhold/world"
)

// one of several.
func one(d *sample.Die, of ...int) int { return of[d.N(len(of))] }

// apt are registers 1 to 5 with which a task on an isle may ask for a call, and often get it.
func apt(d *sample.Die, n int) [5]int {
	switch thing, tasks := d.N(13), task+d.N(2); n {
	case 1, 2, 3:
		return [5]int{door, d.N(99)}
	case 5, 6:
		return [5]int{bell}
	case 7:
		return [5]int{one(d, bell, 13), one(d, 14, 15, d.N(16)), 2 + d.N(7), 1}
	case 8:
		return [5]int{thing, 8 + d.N(8), d.N(8)}
	case 9:
		return [5]int{thing, 8 + d.N(8)}
	case 10, 11:
		return [5]int{thing}
	case 12:
		return [5]int{one(d, table, page), space, one(d, d.N(16), d.N(256))}
	case 13:
		return [5]int{0, space, d.N(16)}
	case 14:
		return [5]int{tasks, node, space, one(d, door, 65535), 2 * d.N(8)}
	case 15, 16, 17:
		return [5]int{tasks, d.N(4)}
	}
	return [5]int{d.N(16), d.N(16), d.N(16), d.N(16), d.N(16)}
}

// call is one of those there are; those that make and take away come more often.
func call(d *sample.Die) int { return one(d, d.N(18), d.N(18), 7, 10, 12, 15) }

// code of a page: what task and mate ask for, and something behind that.
func code(d *sample.Die, first, second int) []int {
	n := call(d)
	with := apt(d, n)
	return []int{
		0x0e00, first, 0x0110, with[0], 0x0120, with[1], 0x0e00, n,
		0x0e00, second, one(d, 0x0130, 0x0a16, 0x0b26, 0x0150), d.N(20), 0x0e00, call(d),
		one(d, 0x0c00, 0x0c00, 0x0c00, 0x0000, 0x0f00), 0,
	}
}

// live: an isle on which something goes on. Keys may be made from one of clay; the bell's frame may be clay that is not used; slots 8 to 12 have further keys.
func live(w *api.World, d *sample.Die, at, dom int) {
	isle(w, at)
	first := 16 * at
	if d.N(3) == 0 {
		w.Kinds[at+bell], w.Slots[first+bell] = api.None, sample.Clay(at+bell, 1, 0)
	} else if d.N(2) == 0 {
		w.Slots[first+13] = sample.Clay(at, size, size)
		for n := range size {
			w.Slots[first+n].From = first + 13
		}
	}
	for n := range 5 {
		from := first + d.N(size)
		if s := w.Slots[from]; d.N(3) > 0 && s.Key.Kind != api.Clay {
			w.Slots[first+8+n] = sample.Key(s.Key.Kind, s.Key.Base, one(d, 7, 7, 3, d.N(8)), 0, one(d, -1, from))
		}
	}
	w.Ram[16*(at+space)], w.Ram[16*(at+space)+1] = 0x8000+at+table, one(d, 0, 0x8000+at+table)
	w.Ram[16*(at+table)], w.Ram[16*(at+table)+1] = one(d, 0x8000, 0xc000)+at+page, one(d, 0, 0xc000+at+page)
	calls := [2]int{call(d), call(d)}
	copy(w.Ram[16*(at+page):], code(d, calls[0], calls[1]))
	for n, t := range []int{at + task, at + mate} {
		r := &w.Tasks[t]
		r.Node, r.Space, r.Helper = at, at+space, one(d, -1, at+door)
		r.Pc, r.Prio, r.Core, r.Dom = one(d, 8*n, 8*n, 8*n, 2*d.N(9)), d.N(4), d.N(len(w.Cores)), dom
		with := apt(d, calls[n])
		copy(r.Regs[1:], append(with[:], 16*d.N(2)))
		place(w, d, t, at)
	}
	if w.Tasks[at+mate].State == api.Still && w.Tasks[at+task].State == api.Ready {
		sample.Ask(w, at+mate, at+task)
	}
	if len(w.Lines[at+bell]) == 0 && w.Kinds[at+bell] == api.Bell {
		w.Bits[at+bell] = d.N(3)
	}
}

// place: a task comes to a core, or to be next, or into a line of its isle.
func place(w *api.World, d *sample.Die, t, at int) {
	r := &w.Tasks[t]
	switch d.N(7) {
	case 0:
	case 1:
		if state := one(d, api.Waiting, api.Calling); len(w.Lines[at+door]) == 0 {
			sample.Stand(w, t, at+door, state)
		}
	case 2:
		if w.Kinds[at+bell] == api.Bell {
			sample.Stand(w, t, at+bell, api.Listening)
		}
	case 3, 4:
		if w.Cores[r.Core] < 0 {
			sample.Run(w, t, r.Core, r.Dom)
			return
		}
		fallthrough
	default:
		sample.Queue(w, t, r.Core, r.Prio, r.Dom)
	}
}

// wild is a sound world of isles, or of what is left of them, of which some are joined by something.
func wild(t *testing.T, d *sample.Die) api.World {
	t.Helper()
	many := 1 + d.N(4)
	w := sample.Hollow(24, many, 0, d.N(2), 1)
	w.Time = d.N(12)
	for at := 0; at < 24; at += size {
		if d.N(5) > 0 {
			live(&w, d, at, one(d, 0, 0, 1, 1, 2))
		}
	}
	if err := world.Check(w); err != nil {
		t.Fatalf("this world to begin with is not sound: %v", err)
	}
	for range 3 * d.N(9) {
		next, _ := sample.Roomy(w)
		if bridge(&next, d); world.Check(next) == nil {
			w = next
		}
	}
	return w
}

// bridge: something that may join two frames, if it may be at all.
func bridge(w *api.World, d *sample.Die) {
	a, b := d.N(24), d.N(24)
	r := &w.Tasks[a]
	switch d.N(9) {
	case 0, 1:
		from := d.N(len(w.Slots))
		s := w.Slots[from]
		w.Slots[16*one(d, 0, north, south)+d.N(16)] = sample.Key(w.Kinds[b], b, one(d, 7, 1, 3), 0, -1)
		w.Slots[16*one(d, 0, north, south)+d.N(16)] = sample.Key(s.Key.Kind, s.Key.Base, s.Key.Rights, s.Key.Badge, from)
	case 2:
		w.Slots[16*one(d, 0, north, south)+d.N(16)] = sample.Clay(b, 1+d.N(8), d.N(8))
	case 3:
		w.Ram[16*a+d.N(16)] = one(d, 0x8000, 0xc000) + b
	case 4:
		r.Node = one(d, 0, north, south)
	case 5:
		r.Space = b
	case 6:
		r.Helper = b
	case 7:
		if w.Kinds[a] == api.Task && r.State == api.Still {
			sample.Stand(w, a, b, one(d, api.Sending, api.Waiting, api.Listening))
		}
	case 8:
		if w.Kinds[a] == api.Task && w.Kinds[b] == api.Task && r.State == api.Still {
			sample.Ask(w, a, b)
		}
	}
}

// near: does something in one frame lead to another one? N1, told once more.
func near(w api.World, a, b int) bool {
	for _, s := range w.Slots[16*a : 16*a+16] {
		k := s.Key
		if k.Kind != api.None && (b == k.Base || k.Kind == api.Clay && k.Base < b && b < k.Base+k.Len || s.From >= 0 && s.From/16 == b) {
			return true
		}
	}
	words := w.Ram[16*a : 16*a+16]
	if (w.Kinds[a] == api.Table || w.Kinds[a] == api.Space) && (slices.Contains(words, 0x8000+b) || slices.Contains(words, 0xc000+b)) {
		return true
	}
	r := w.Tasks[a]
	return w.Kinds[a] == api.Task && slices.Contains([]int{r.Node, r.Space, r.Helper, r.At, r.Owes}, b)
}

// partsOf is N1, told once more: from each frame all ways are gone, until nothing new is found.
func partsOf(w api.World) []int {
	var all []int
	for begin := range w.Kinds {
		found := []int{begin}
		for n := 0; n < len(found); n++ {
			for other := range w.Kinds {
				if !slices.Contains(found, other) && (near(w, found[n], other) || near(w, other, found[n])) {
					found = append(found, other)
				}
			}
		}
		all = append(all, slices.Min(found))
	}
	return all
}

// view is N2, told once more: what is not of the part is taken out of the lists of the world.
func view(w api.World, least []int, part int) parts.View {
	var v parts.View
	for frame, of := range least {
		if of != part {
			continue
		}
		for n := 16 * frame; n/16 == frame; n++ {
			v.Ram, v.Slots = append(v.Ram, w.Ram[n]), append(v.Slots, w.Slots[n])
		}
		v.Tasks, v.Kinds, v.Bits = append(v.Tasks, w.Tasks[frame]), append(v.Kinds, w.Kinds[frame]), append(v.Bits, w.Bits[frame])
		v.Lines = append(v.Lines, w.Lines[frame])
	}
	isOther := func(t int) bool { return least[t] != part }
	for _, l := range w.Ready {
		v.Turns = append(v.Turns, slices.DeleteFunc(slices.Clone(l), isOther))
	}
	for _, t := range w.Cores {
		if t >= 0 && isOther(t) {
			t = -1
		}
		v.Runs = append(v.Runs, t)
	}
	return v
}

// N1, N2: of many worlds, against the chapter told a second time.
func TestWild(t *testing.T) {
	d := sample.Die(14)
	many := map[int]int{}
	for range 150 {
		w := wild(t, &d)
		want := partsOf(w)
		isOf(t, "a wild world", w, want)
		count := 0
		for part := range w.Kinds {
			if want[part] != part {
				nothingSeen(t, w, part, api.ErrRange)
				continue
			}
			count++
			sees(t, "a wild world", w, part, view(w, want, part))
		}
		many[count]++
	}
	if len(many) < 8 {
		t.Errorf("so many worlds have so many parts: %v: these ask too little", many)
	}
}

// differs: what is told of a frame, is it another text?
func differs(a, b api.World, frame int) bool {
	tell := func(w api.World) string {
		return fmt.Sprint(w.Ram[16*frame:16*frame+16], w.Slots[16*frame:16*frame+16], w.Tasks[frame], w.Kinds[frame], w.Lines[frame], w.Bits[frame])
	}
	return tell(a) != tell(b)
}

// N2: what is changed in many worlds, against the chapter told a second time.
func TestWildChanged(t *testing.T) {
	d := sample.Die(15)
	many := map[int]int{}
	for range 150 {
		a := wild(t, &d)
		b, _ := sample.Roomy(a)
		if bridge(&b, &d); world.Check(b) != nil {
			b = wild(t, &d)
		}
		var want []int
		for frame := range a.Kinds {
			if differs(a, b, frame) {
				want = append(want, frame)
			}
		}
		isChanged(t, "wild worlds", a, b, want...)
		many[len(want)]++
	}
	if len(many) < 8 || many[0] == 0 || many[1] == 0 {
		t.Errorf("in so many worlds so many frames are changed: %v: these ask too little", many)
	}
}
