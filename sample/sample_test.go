package sample_test

import (
	"fmt"
	"testing"

	"keyhold/api"
	"keyhold/sample"
	"keyhold/world"
)

// The worlds that tests begin with are sound.
func TestSound(t *testing.T) {
	if err := world.Check(sample.Full()); err != nil {
		t.Error("Full:", err)
	}
	if err := world.Check(sample.Calm()); err != nil {
		t.Error("Calm:", err)
	}
	for _, w := range []api.World{sample.Hollow(1, 1, 0), sample.Hollow(24, 4, 0, 1, 2, 3)} {
		if err := world.Check(w); err != nil {
			t.Error("Hollow:", err)
		}
	}
}

// In a full world each kind of thing and each state of a task is there.
func TestFullHasAll(t *testing.T) {
	w := sample.Full()
	kinds, states := map[int]int{}, map[int]int{}
	for f, kind := range w.Kinds {
		kinds[kind]++
		if kind == api.Task {
			states[w.Tasks[f].State]++
		}
	}
	if len(kinds) != 8 || len(states) != 7 {
		t.Errorf("kinds %v, states %v", kinds, states)
	}
}

// In a calm world all tasks are Still; they can be placed one by one, and it stays sound.
func TestCalm(t *testing.T) {
	w := sample.Calm()
	for f, kind := range w.Kinds {
		if kind == api.Task && w.Tasks[f].State != api.Still {
			t.Errorf("task %d is in state %d", f, w.Tasks[f].State)
		}
	}
	for n, place := range []func(){
		func() { sample.Run(&w, sample.Runs, 1, 2) },
		func() { sample.Queue(&w, sample.Next, 1, 3, 1) },
		func() { sample.Queue(&w, sample.Still, 1, 3, 0) },
		func() { sample.Stand(&w, sample.Sends, sample.Door, api.Sending) },
		func() { sample.Stand(&w, sample.Calls, sample.Door, api.Calling) },
		func() { sample.Stand(&w, sample.Waits, sample.Desk, api.Waiting) },
		func() { sample.Stand(&w, sample.Listens, sample.Bell, api.Listening) },
		func() { sample.Ask(&w, sample.Asks, sample.Runs) },
	} {
		if place(); world.Check(w) != nil {
			t.Errorf("behind %d: %v", n, world.Check(w))
		}
	}
	if fmt.Sprint(w.Cores, w.Ready[7], w.Lines[sample.Door]) != "[-1 6] [7 13] [8 9]" {
		t.Errorf("cores %v, Ready %v, a line %v", w.Cores, w.Ready[7], w.Lines[sample.Door])
	}
}

// What is written behind a list is seen, wherever.
func TestRoomy(t *testing.T) {
	for n, write := range []func(w *api.World){
		func(w *api.World) { _ = append(w.Ram, 1) },
		func(w *api.World) { _ = append(w.Kinds, 1) },
		func(w *api.World) { _ = append(w.Slots, api.Slot{}) },
		func(w *api.World) { _ = append(w.Tasks, api.Running{}) },
		func(w *api.World) { _ = append(w.Bits, 1) },
		func(w *api.World) { _ = append(w.Cores, 1) },
		func(w *api.World) { _ = append(w.Doms, 1) },
		func(w *api.World) { _ = append(w.Lines[sample.Door], 1) },
		func(w *api.World) { _ = append(w.Ready[0], 1) },
		func(w *api.World) { _ = append(w.Tlbs[1], api.Entry{}) },
		func(w *api.World) { w.Lines[sample.Door][0] = 1 },
	} {
		w, whole := sample.Roomy(sample.Full())
		if fmt.Sprint(w) != fmt.Sprint(sample.Full()) {
			t.Error("a roomy world is another one")
		}
		before := fmt.Sprint(whole)
		write(&w)
		if fmt.Sprint(whole) == before {
			t.Errorf("writing %d is not seen", n)
		}
	}
}

// Lists that share memory are found.
func TestApart(t *testing.T) {
	if !sample.Apart(sample.Full()) {
		t.Error("lists of their own are told to share memory")
	}
	for n, share := range []func(w *api.World){
		func(w *api.World) { w.Bits = w.Kinds },
		func(w *api.World) { w.Doms = w.Ram[:2] },
		func(w *api.World) { w.Ready[0] = w.Lines[sample.Desk] },
		func(w *api.World) { w.Ready = w.Lines[:8] },
		func(w *api.World) { w.Tlbs[1] = w.Tlbs[0][1:] },
	} {
		w := sample.Full()
		share(&w)
		if sample.Apart(w) {
			t.Errorf("shared memory %d is not found", n)
		}
	}
}
