package tree_test

import (
	"fmt"
	"slices"
	"testing"

	"keyhold/api"
	"keyhold/plain"
	"keyhold/sample"
	"keyhold/tree"
	"keyhold/world"
)

// varied is a full world whose keys are moved and copied about, some of them dropped.
func varied(t *testing.T, d *sample.Die) api.World {
	t.Helper()
	w := full()
	for range d.N(40) {
		from, to := d.N(32), d.N(32)
		next, err := tree.Copy(w, from, to, d.N(8), d.N(2)*d.N(9))
		switch d.N(6) {
		case 0, 1, 2:
			next, err = tree.Move(w, from, to)
		case 3:
			if from > 2 && d.N(3) == 0 {
				next, err = tree.Drop(w, from)
			}
		}
		if err == nil {
			w = next
		}
	}
	if err := world.Check(w); err != nil {
		t.Fatalf("no longer sound: %v", err)
	}
	return w
}

// loss: which slots are emptied when one is, and which frames are gone by that.
func loss(w api.World, slot int) (slots, frames map[int]bool) {
	slots, frames = map[int]bool{slot: true}, map[int]bool{}
	for again := true; again; {
		again = false
		for f, kind := range w.Kinds {
			if kind == api.None || frames[f] || isHeld(w, f, slots) {
				continue
			}
			frames[f], again = true, true
			for s := 16 * f; s < 16*f+16; s++ {
				if w.Slots[s].Key.Kind != api.None {
					slots[s] = true
				}
			}
		}
	}
	return slots, frames
}

// isHeld: is a key to a frame in other slots than these?
func isHeld(w api.World, f int, but map[int]bool) bool {
	for s, of := range w.Slots {
		if of.Key.Kind > api.Clay && of.Key.Base == f && !but[s] {
			return true
		}
	}
	return false
}

// behind is the world behind a Drop, told of what is lost by it all at once. (Words of frames that are gone are those of got: they hang on what went first.)
func behind(w, got api.World, slots, frames map[int]bool) api.World {
	want, _ := sample.Roomy(w)
	for s := range want.Slots {
		for slots[want.Slots[s].From] {
			want.Slots[s].From = w.Slots[want.Slots[s].From].From
		}
		if slots[s] {
			want.Slots[s] = empty
		}
	}
	rid := func(n *int) {
		if frames[*n] {
			*n = -1
		}
	}
	for f := range want.Tasks {
		task := &want.Tasks[f]
		if task.State != api.Still && frames[task.At] || frames[slices.IndexFunc(w.Tasks, func(o api.Running) bool { return o.Owes == f })] {
			task.State = api.Still
		}
		rid(&task.Node)
		rid(&task.Space)
		rid(&task.Helper)
		rid(&task.At)
		rid(&task.Owes)
	}
	for f := range frames {
		want.Kinds[f], want.Bits[f], want.Lines[f], want.Tasks[f] = api.None, 0, nil, plain.Blank()
		copy(want.Ram[16*f:16*f+16], got.Ram[16*f:])
	}
	for _, lists := range [][][]int{want.Lines, want.Ready} {
		for i, l := range lists {
			lists[i] = slices.DeleteFunc(l, func(t int) bool { return frames[t] })
		}
	}
	for c := range want.Cores {
		rid(&want.Cores[c])
		want.Tlbs[c] = slices.DeleteFunc(want.Tlbs[c], func(e api.Entry) bool {
			return frames[e.Space] || frames[e.Frame] || frames[w.Ram[16*e.Space+e.Page/16]&1023]
		})
	}
	for n, e := range want.Ram {
		if kind := want.Kinds[n/16]; (kind == api.Space || kind == api.Table) && e != 0 && frames[e&1023] {
			want.Ram[n] = 0
		}
	}
	return want
}

// G3: in many worlds each slot is dropped: what comes is what is left when all is taken away that is lost, and it is sound.
func TestDropWild(t *testing.T) {
	d := sample.Die(11)
	lost := map[int]int{}
	for range 40 {
		w := varied(t, &d)
		for slot, of := range w.Slots {
			got, err := tree.Drop(w, slot)
			if of.Key.Kind == api.None {
				if err != error(api.ErrEmpty) {
					t.Fatalf("Drop of an empty slot: %v", err)
				}
				continue
			}
			if err != nil || world.Check(got) != nil {
				t.Fatalf("Drop(%d): %v; then: %v", slot, err, world.Check(got))
			}
			slots, frames := loss(w, slot)
			lost[len(frames)]++
			if want := behind(w, got, slots, frames); fmt.Sprint(got) != fmt.Sprint(want) {
				t.Fatalf("Drop(%d): %s", slot, sample.Differences(got, want, fmt.Sprint))
			}
		}
	}
	if lost[0] == 0 || lost[1] == 0 || len(lost) < 6 {
		t.Errorf("so many frames were lost how often: %v: these worlds ask too little", lost)
	}
}

// G4, and the whole's third: what is taken back is gone, with all that was made from it; by the last slot first.
func TestRevokeWild(t *testing.T) {
	d := sample.Die(12)
	for range 20 {
		w := varied(t, &d)
		for slot, of := range w.Slots {
			if of.Key.Kind == api.None {
				continue
			}
			got, err := tree.Revoke(w, slot)
			if err != nil || world.Check(got) != nil {
				t.Fatalf("Revoke(%d): %v; then: %v", slot, err, world.Check(got))
			}
			want := w
			for want.Slots[slot].Key.Kind != api.None {
				l, _ := tree.Under(want, slot)
				if len(l) == 0 {
					break
				}
				want, _ = tree.Drop(want, l[len(l)-1])
			}
			if fmt.Sprint(got) != fmt.Sprint(want) {
				t.Fatalf("Revoke(%d): %s", slot, sample.Differences(got, want, fmt.Sprint))
			}
			if slices.ContainsFunc(got.Slots, func(s api.Slot) bool { return s.From == slot }) {
				t.Fatalf("Revoke(%d): a key made from it is there", slot)
			}
		}
	}
}

// G2: Under is all that is marked when marks go down from a slot, again and again.
func TestUnderWild(t *testing.T) {
	d := sample.Die(13)
	for range 20 {
		w := varied(t, &d)
		for slot, of := range w.Slots {
			if of.Key.Kind == api.None {
				continue
			}
			marked := map[int]bool{slot: true}
			for range w.Slots {
				for s, of := range w.Slots {
					if marked[of.From] {
						marked[s] = true
					}
				}
			}
			var want []int
			for s := range w.Slots {
				if marked[s] && s != slot {
					want = append(want, s)
				}
			}
			if got, err := tree.Under(w, slot); err != nil || !slices.Equal(got, want) {
				t.Fatalf("Under(%d): %v, %v; want %v", slot, got, err, want)
			}
		}
	}
}

// The whole's second and third, at whatever numbers: what comes is sound, no key has a right that the one from which it was made has not; what is refused answers no world.
func TestWild(t *testing.T) {
	d := sample.Die(14)
	told := map[api.Errno]int{}
	odd := func() int { return []int{d.N(32), d.N(32), d.N(400), d.N(400) - 8}[d.N(4)] }
	for range 20 {
		w := varied(t, &d)
		for range 40 {
			from, to := odd(), odd()
			for n, do := range []call{copies(from, to, d.N(10)-1, []int{0, 0, 7, 65536, -1}[d.N(5)]), moves(from, to), drops(from), revokes(from)} {
				got, err := do(w)
				what, at := api.Tell(err)
				told[what]++
				if err != nil {
					if at != -1 || fmt.Sprint(got) != fmt.Sprint(api.World{}) {
						t.Fatalf("call %d: %v, and a world", n, err)
					}
					continue
				}
				if err := world.Check(got); err != nil {
					t.Fatalf("call %d from %d to %d: not sound: %v", n, from, to, err)
				}
				for s, of := range got.Slots {
					if of.From >= 0 && got.Slots[of.From].Key.Kind != api.Clay && of.Key.Rights&^got.Slots[of.From].Key.Rights != 0 {
						t.Fatalf("call %d: slot %d has a right more", n, s)
					}
				}
			}
		}
	}
	for _, e := range []api.Errno{api.OK, api.ErrRange, api.ErrKind, api.ErrRight, api.ErrEmpty, api.ErrTwice} {
		if told[e] == 0 {
			t.Errorf("error %d was never told: these numbers ask too little", e)
		}
		delete(told, e)
	}
	if len(told) > 0 {
		t.Errorf("errors that are none of these calls': %v", told)
	}
}
