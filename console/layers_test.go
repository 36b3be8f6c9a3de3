package console_test

import (
	"fmt"
	"slices"
	"strings"
	"testing"

	"keyhold/api"
	"keyhold/boot"
	"keyhold/cores"
	"keyhold/farm"
	"keyhold/kernel"
	"keyhold/sample"
	"keyhold/world"
)

// worldOf is a world with which a guest's session could begin.
func worldOf(t *testing.T, d *guest) api.World {
	t.Helper()
	for {
		_, text, _ := strings.Cut(d.begin(14+d.N(11)), "boot\n")
		w, err := boot.Read(strings.TrimSuffix(text, "end\n"))
		if err == nil {
			return w
		}
		if what, _ := api.Tell(err); what != api.ErrKind {
			t.Fatal(err)
		}
	}
}

// forgetful is the same world, of which cores remember nothing.
func forgetful(w api.World) api.World {
	w.Tlbs = make([][]api.Entry, len(w.Tlbs))
	return w
}

// goesOn is the world behind a step; it is sound, and what cores remembered made no difference.
func goesOn(t *testing.T, w api.World, core int) api.World {
	t.Helper()
	next, err := kernel.Step(w, core)
	if err != nil {
		t.Fatal(err)
	}
	if err := world.Check(next); err != nil {
		t.Fatalf("it is no longer sound: %v", err)
	}
	other, err := kernel.Step(forgetful(w), core)
	if err != nil || !sample.Same(forgetful(next), forgetful(other)) {
		t.Fatalf("what is remembered makes a difference: %v: %s", err, sample.Differences(other, next, fmt.Sprint))
	}
	return next
}

// atOnce: cores that work at once come to the world of whole steps, by those of them that the machine tells; that is how many.
func atOnce(t *testing.T, w api.World, script []int) int {
	t.Helper()
	m, err := cores.New(w)
	if err != nil {
		t.Fatal(err)
	}
	m, by, err := cores.Run(m, script)
	if err != nil || cores.Check(m) != nil {
		t.Fatal(err, cores.Check(m))
	}
	one, err := kernel.Run(w, by)
	if err != nil || !sample.Same(one, m.World) {
		t.Fatalf("one behind the other: %v: %s", err, sample.Differences(m.World, one, fmt.Sprint))
	}
	return len(by)
}

// The whole, 1, 2, 5 and 7: of worlds with which sessions begin, by scripts: step by step, by cores at once, and by many hands.
func TestLayers(t *testing.T) {
	d := &guest{12}
	sums, went := map[int]int{}, 0
	for range 120 {
		w := worldOf(t, d)
		last, script := w, make([]int, 30)
		for n := range script {
			script[n] = d.N(2)
			last = goesOn(t, last, script[n])
		}
		went += atOnce(t, w, script)
		want := []farm.End{{Sum: farm.Sum(last), Time: 30}, {Err: api.ErrRange}}
		for hands := 1; hands <= 8; hands++ {
			got, err := farm.Run(w, [][]int{script, {0, 1, 2}}, hands)
			if err != nil || !slices.Equal(got, want) {
				t.Fatalf("by %d hands: %v, %v, want %v", hands, got, err, want)
			}
		}
		sums[want[0].Sum]++
	}
	if len(sums) < 80 || went < 1000 || went > 3400 {
		t.Errorf("%d sums, %d whole steps: these ask too little", len(sums), went)
	}
}
