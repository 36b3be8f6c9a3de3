package cores_test

import (
	"fmt"
	"slices"
	"testing"

	"keyhold/api"
	"keyhold/boot"
	"keyhold/cores"
	"keyhold/kernel"
	"keyhold/sample"
)

// documentMachine is a machine of the document's text.
func documentMachine(t *testing.T) cores.Machine {
	t.Helper()
	w, err := boot.Read(sample.Document)
	if err != nil {
		t.Fatal(err)
	}
	m, err := cores.New(w)
	if err != nil {
		t.Fatal(err)
	}
	return m
}

// The document's script: 0 0 0 1 and then eleven times 0.
func TestDocument(t *testing.T) {
	m := documentMachine(t)
	script := append([]int{0, 0, 0, 1}, make([]int, 11)...)
	got, by, err := cores.Run(m, script)
	if err != nil || fmt.Sprint(by) != "[0 0 1 0 0 0 0 0]" {
		t.Fatalf("the world went on by %v, %v", by, err)
	}
	if w, err := kernel.Run(m.World, by); err != nil || !sample.Same(got.World, w) {
		t.Errorf("one behind the other: %v, %s", err, sample.Differences(got.World, w, fmt.Sprint))
	}
	// At which of the script's steps it went on, and which locks core 0 has behind each.
	want := []string{
		"true 0 [] 0", "true 0 [] 0", "false 1 [0 6 8] 0", "true 1 [0 6 8] 0",
		"false 1 [0 6 8] 1", "false 1 [0 6 8] 2", "false 1 [0 6 8] 3", "true 2 [0 6 8] 3",
		"false 2 [0 6 8] 2", "false 2 [0 6 8] 1", "false 0 [] 0",
		"true 0 [] 0", "true 0 [] 0", "true 0 [] 0", "true 0 [] 0",
	}
	for n, core := range script {
		then, went, err := cores.Step(m, core)
		if err != nil {
			t.Fatal(err)
		}
		c := then.Cores[0]
		if told := fmt.Sprint(went, c.Stage, c.Locks, c.Have); told != fmt.Sprint(want[n]) {
			t.Errorf("behind step %d: %s, want %s", n, told, want[n])
		}
		m = then
	}
	if !same(m, got) {
		t.Errorf("step by step: %s", differences(m, got))
	}
}

// M3: a script of nothing does nothing; of MaxSteps steps it is done, of more it is not, whatever they are.
func TestRunLength(t *testing.T) {
	m := documentMachine(t)
	done(t, "nothing", m, runsBy(), m, "[]")
	most := slices.Repeat([]int{0, 1, 1}, 200)
	if _, by, err := cores.Run(m, most); err != nil || len(by) < 300 {
		t.Errorf("600 steps: %d of them go on, %v", len(by), err)
	}
	refused(t, "601 steps", m, runsBy(append(most, 0)...), api.ErrRange, -1)
	refused(t, "601 steps, of no core", m, runsBy(slices.Repeat([]int{7}, 601)...), api.ErrRange, -1)
	refused(t, "many steps", m, runsBy(make([]int, 100000)...), api.ErrRange, -1)
}

// M3: the first that can't be done is told, with its place, and nothing is done.
func TestRunFaults(t *testing.T) {
	m := documentMachine(t)
	for _, core := range []int{-1, 2, 3, 7} {
		refused(t, "no core", m, runsBy(0, 1, 0, 0, core, 0, 9), api.ErrRange, 4)
		refused(t, "no core at first", m, runsBy(core, 0, 0), api.ErrRange, 0)
		refused(t, "no core at last", m, runsBy(append(make([]int, 599), core)...), api.ErrRange, 599)
	}
	m.World.Time = 999998
	done := func(script ...int) string {
		_, by, err := cores.Run(m, script)
		return fmt.Sprint(by, err)
	}
	if told := done(0, 0); told != "[0 0] <nil>" {
		t.Errorf("up to the last time: %s", told)
	}
	refused(t, "no time is left", m, runsBy(0, 0, 1), api.ErrRange, 2)
	refused(t, "no time is left for no core", m, runsBy(0, 0, 5, 0), api.ErrRange, 2)
	m = documentMachine(t)
	m.World.Doms, m.World.Time = []int{0}, 999997
	// Core 0 sets, sets, and is at Entry, where time ends by core 1: its locks stay with it.
	refused(t, "no time is left among locks", m, runsBy(0, 0, 0, 0, 1, 0), api.ErrRange, 5)
	refused(t, "no time is left among locks, for the other core", m, runsBy(0, 0, 0, 0, 1, 1), api.ErrRange, 5)
}

// Z2: a script is not written into, nor is what stands behind it read.
func TestRunKeepsScript(t *testing.T) {
	m := documentMachine(t)
	script, whole := sample.Room([]int{0, 0, 0, 1, 0, 0}, 9)
	before := fmt.Sprint(whole)
	_, by, err := cores.Run(m, script)
	if err != nil || fmt.Sprint(by) != "[0 0 1]" {
		t.Fatalf("%v, %v", by, err)
	}
	by[0], by = 8, append(by, 8, 8, 8, 8)
	if fmt.Sprint(whole) != before {
		t.Errorf("the script is %v now, and by %v", whole, by)
	}
}
