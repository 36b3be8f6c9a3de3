package kernel_test

import (
	"fmt"
	"testing"

	"keyhold/api"
	"keyhold/kernel"
	"keyhold/sample"
	"keyhold/world"
)

// documentWorld is the world of the document's text.
func documentWorld(t *testing.T) api.World {
	t.Helper()
	w := sample.Hollow(24, 2, 0, 1)
	w.Kinds[0], w.Slots[0] = api.Node, sample.Key(api.Node, 0, 7, 0, -1)
	w.Slots[1] = sample.Clay(1, 16, 8)
	for i, kind := range []int{api.Node, api.Space, api.Table, api.Page, api.Page, api.Task, api.Task, api.Door} {
		w.Kinds[1+i], w.Slots[2+i] = kind, sample.Key(kind, 1+i, 7, 0, 1)
	}
	w.Slots[10] = sample.Key(api.Door, 8, 3, 5, 9)
	w.Ram[16*2], w.Ram[16*3] = 0x8003, 0xc004
	copy(w.Ram[16*4:], []int{0x0110, 9, 0x0120, 7, 0x0e00, 1, 0x0c00, 0})
	w.Tasks[6].Node, w.Tasks[6].Space = 0, 2
	w.Tasks[7].Node, w.Tasks[7].Space, w.Tasks[7].Helper = 0, 2, 8
	sample.Queue(&w, 6, 0, 1, 0)
	sample.Queue(&w, 7, 1, 1, 0)
	if err := world.Check(w); err != nil {
		t.Fatal(err)
	}
	return w
}

// task is what the document's session tells of a task.
func task(w api.World, t int) string {
	r := w.Tasks[t]
	return fmt.Sprint(r.State, r.Prio, r.Pc, r.Regs)
}

// The document's session, as far as steps and calls go.
func TestDocument(t *testing.T) {
	w, err := kernel.Run(documentWorld(t), []int{0, 0, 0})
	if err != nil || task(w, 6) != "2 1 6 [0 9 7 0 0 0 0 0]" || fmt.Sprint(w.Cores) != "[-1 -1]" {
		t.Fatalf("run 0 0 0: %v, task 6: %s, cores %v", err, task(w, 6), w.Cores)
	}
	if _, err := kernel.Call(w, 1, 0); err != error(api.ErrEmpty) {
		t.Errorf("call 1 0: %v", err)
	}
	w, err = kernel.Step(w, 1)
	if err != nil || task(w, 7) != "1 1 2 [0 9 0 0 0 0 0 0]" {
		t.Fatalf("step 1: %v, task 7: %s", err, task(w, 7))
	}
	w, err = kernel.Run(w, []int{1, 1, 1})
	if err != nil || task(w, 7) != "1 1 2 [0 9 0 0 0 0 0 0]" || w.Time != 7 {
		t.Fatalf("run 1 1 1: %v, task 7: %s, time %d", err, task(w, 7), w.Time)
	}
	if _, err := kernel.Call(w, 0, 99); err != error(api.ErrEmpty) {
		t.Errorf("call 0 99: %v", err)
	}
}

// sum is what the document's farm tells of a world: words and registers, each times its number.
func sum(w api.World) int {
	all := 0
	for n, v := range w.Ram {
		all += (n + 1) * v
	}
	for _, r := range w.Tasks {
		for n, v := range r.Regs {
			all += (n + 1) * v
		}
	}
	return all
}

// The document's farm: scripts 0 0 0, 1, and 7.
func TestDocumentScripts(t *testing.T) {
	for _, c := range []struct {
		cores             []int
		sum, time, at, no int
	}{{[]int{0, 0, 0}, 3993650, 3, -1, 0}, {[]int{1}, 3993629, 1, -1, 0}, {[]int{7}, 0, 0, 0, 2}} {
		w, err := kernel.Run(documentWorld(t), c.cores)
		what, at := api.Tell(err)
		if sum(w) != c.sum || w.Time != c.time || int(what) != c.no || at != c.at {
			t.Errorf("%v: %d at time %d, %v", c.cores, sum(w), w.Time, err)
		}
	}
}
