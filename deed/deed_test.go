package deed_test

import (
	"fmt"
	"reflect"
	"slices"
	"testing"

	"keyhold/api"
	"keyhold/deed"
	"keyhold/sample"
	"keyhold/world"
)

// What is done is done to the world that comes out, not to the one that was handed in.
func TestDo(t *testing.T) {
	w, whole := sample.Roomy(sample.Full())
	before := fmt.Sprint(whole)
	got, err := deed.Do(w, func(w *api.World) error {
		w.Time = 9
		w.Slots[31] = sample.Key(api.Page, sample.Page, 1, 0, 5)
		w.Lines[sample.Door] = append(w.Lines[sample.Door], 3)
		w.Ready[6][0] = 5
		w.Tlbs[0][0].Page = 8
		return nil
	})
	want := sample.Full()
	want.Time = 9
	want.Slots[31] = sample.Key(api.Page, sample.Page, 1, 0, 5)
	want.Lines[sample.Door] = append(want.Lines[sample.Door], 3)
	want.Ready[6][0] = 5
	want.Tlbs[0][0].Page = 8
	if err != nil || fmt.Sprint(got) != fmt.Sprint(want) {
		t.Errorf("Do: %v, %v", got, err)
	}
	if !sample.Apart(got) {
		t.Error("two lists share memory")
	}
	if fmt.Sprint(whole) != before {
		t.Error("what was handed in is written into")
	}
}

// No list, to the end of its memory, is one that was handed in.
func TestDoKeepsNothing(t *testing.T) {
	w := sample.Full()
	same, err := deed.Do(w, func(w *api.World) error { return nil })
	if err != nil || fmt.Sprint(same) != fmt.Sprint(w) {
		t.Fatalf("nothing done: %v, %v", same, err)
	}
	for _, lists := range [][2][]int{{w.Ram, same.Ram}, {w.Doms, same.Doms}, {w.Lines[sample.Door], same.Lines[sample.Door]}, {w.Ready[6], same.Ready[6]}} {
		if &lists[0][0] == &lists[1][0] {
			t.Error("a list is handed on")
		}
	}
	before := fmt.Sprint(w)
	_ = append(same.Doms, 5)
	sample.Apart(same)
	if fmt.Sprint(w) != before {
		t.Error("what comes out shares memory with what was handed in")
	}
}

// An unsound world is refused ahead of all else; what is refused answers no world.
func TestDoRefuses(t *testing.T) {
	w := sample.Full()
	w.Time = -1
	did := false
	got, err := deed.Do(w, func(w *api.World) error { did = true; return nil })
	if err != error(api.ErrState) || did || !reflect.DeepEqual(got, api.World{}) {
		t.Errorf("of an unsound world: %v, %v; done: %v", got, err, did)
	}
	w = sample.Full()
	before := fmt.Sprint(w)
	got, err = deed.Do(w, func(w *api.World) error { w.Ram[0] = 5; w.Kinds[0] = 9; return api.ErrFull })
	if err != error(api.ErrFull) || !reflect.DeepEqual(got, api.World{}) {
		t.Errorf("refused: %v, %v", got, err)
	}
	if fmt.Sprint(w) != before {
		t.Error("what is refused changes the world that was handed in")
	}
}

// I2: of each state; and nobody else is touched.
func TestStop(t *testing.T) {
	for task, clear := range map[int]func(w *api.World){
		sample.Runs:    func(w *api.World) { w.Cores[0] = -1 },
		sample.Next:    func(w *api.World) { w.Ready[6] = nil },
		sample.Sends:   func(w *api.World) { w.Lines[sample.Door] = []int{sample.Calls} },
		sample.Calls:   func(w *api.World) { w.Lines[sample.Door] = []int{sample.Sends} },
		sample.Waits:   func(w *api.World) { w.Lines[sample.Desk] = nil },
		sample.Asks:    func(w *api.World) { w.Tasks[sample.Runs].Owes = -1 },
		sample.Listens: func(w *api.World) { w.Lines[sample.Bell] = nil },
		sample.Still:   func(w *api.World) {},
	} {
		w, want := sample.Full(), sample.Full()
		deed.Stop(&w, task)
		clear(&want)
		want.Tasks[task].State, want.Tasks[task].At = api.Still, -1
		if fmt.Sprint(w) != fmt.Sprint(want) {
			t.Errorf("task %d stopped: %v, want %v", task, w, want)
		}
		if err := world.Check(w); err != nil {
			t.Errorf("task %d stopped: %v", task, err)
		}
	}
}

// Who leaves is nowhere; it has its state still, and who owes it goes on owing it.
func TestLeave(t *testing.T) {
	for task, clear := range map[int]func(w *api.World){
		sample.Runs:    func(w *api.World) { w.Cores[0] = -1 },
		sample.Next:    func(w *api.World) { w.Ready[6] = nil },
		sample.Sends:   func(w *api.World) { w.Lines[sample.Door] = []int{sample.Calls} },
		sample.Calls:   func(w *api.World) { w.Lines[sample.Door] = []int{sample.Sends} },
		sample.Waits:   func(w *api.World) { w.Lines[sample.Desk] = nil },
		sample.Asks:    func(w *api.World) {},
		sample.Listens: func(w *api.World) { w.Lines[sample.Bell] = nil },
		sample.Still:   func(w *api.World) {},
	} {
		w, want := sample.Full(), sample.Full()
		deed.Leave(&w, task)
		clear(&want)
		want.Tasks[task].At = -1
		if wrong := sample.Differences(w, want, fmt.Sprint); wrong != "" {
			t.Errorf("task %d leaves: %s", task, wrong)
		}
	}
}

// I1: who wakes, from wherever, is Ready, and comes to the end of the list of its core and priority.
func TestWake(t *testing.T) {
	for task, clear := range map[int]func(w *api.World){
		sample.Runs:    func(w *api.World) { w.Cores[0], w.Ready[0] = -1, []int{sample.Runs} },
		sample.Next:    func(w *api.World) {},
		sample.Sends:   func(w *api.World) { w.Lines[sample.Door], w.Ready[0] = []int{sample.Calls}, []int{sample.Sends} },
		sample.Waits:   func(w *api.World) { w.Lines[sample.Desk], w.Ready[0] = nil, []int{sample.Waits} },
		sample.Listens: func(w *api.World) { w.Lines[sample.Bell], w.Ready[0] = nil, []int{sample.Listens} },
		sample.Still:   func(w *api.World) { w.Ready[7] = []int{sample.Still} },
	} {
		w, want := sample.Full(), sample.Full()
		deed.Wake(&w, task)
		clear(&want)
		want.Tasks[task].State, want.Tasks[task].At = api.Ready, -1
		if wrong := sample.Differences(w, want, fmt.Sprint); wrong != "" {
			t.Errorf("task %d wakes: %s", task, wrong)
		}
		if err := world.Check(w); err != nil {
			t.Errorf("task %d wakes: %v", task, err)
		}
	}
}

// Who wakes among others comes behind them, out of the same list, too.
func TestWakeAmongOthers(t *testing.T) {
	w := sample.Calm()
	for _, task := range []int{sample.Runs, sample.Next, sample.Still} {
		sample.Queue(&w, task, 1, 2, 0)
	}
	deed.Wake(&w, sample.Next)
	w.Tasks[sample.Waits].Core, w.Tasks[sample.Waits].Prio = 1, 2
	deed.Wake(&w, sample.Waits)
	if want := []int{sample.Runs, sample.Still, sample.Next, sample.Waits}; !slices.Equal(w.Ready[6], want) {
		t.Errorf("Ready: %v, want %v", w.Ready[6], want)
	}
	if err := world.Check(w); err != nil {
		t.Error(err)
	}
}

// Who stands among others leaves them as they stood.
func TestStopAmongOthers(t *testing.T) {
	w := sample.Full()
	s := &w.Tasks[sample.Still]
	s.State, s.Prio = api.Ready, 2
	w.Ready[6] = []int{sample.Next, sample.Still}
	deed.Stop(&w, sample.Next)
	if !slices.Equal(w.Ready[6], []int{sample.Still}) {
		t.Errorf("Ready: %v", w.Ready[6])
	}
	if err := world.Check(w); err != nil {
		t.Error(err)
	}
}
