package farm_test

import (
	"fmt"
	"math"
	"runtime"
	"slices"
	"sync"
	"testing"
	"time"

	"keyhold/api"
	"keyhold/boot"
	"keyhold/farm"
	"keyhold/sample"
	"keyhold/world"
)

// ends: of these scripts on this world that is what comes, by one hand and by more; what was handed in stays as it was, and what comes out is fresh.
func ends(t *testing.T, why string, w api.World, scripts [][]int, want ...farm.End) {
	t.Helper()
	for hands := 1; hands <= 8; hands++ {
		handed, whole := sample.Roomy(w)
		short, long := rooms(scripts)
		before := fmt.Sprint(whole, long)
		got, err := farm.Run(handed, short, hands)
		if err != nil || !slices.Equal(got, want) {
			t.Fatalf("%s: %d hands: %v, %v, want %v", why, hands, got, err, want)
		}
		again, _ := farm.Run(handed, short, hands)
		for n := range got {
			got[n] = farm.End{Sum: 4711}
		}
		if !slices.Equal(again, want) {
			t.Errorf("%s: %d hands: once more: %v, want %v", why, hands, again, want)
		}
		if fmt.Sprint(whole, long) != before {
			t.Fatalf("%s: %d hands: what was handed in is written into", why, hands)
		}
	}
}

// rooms: scripts with marks behind each of them, and behind all; and these with the marks, in the same memory.
func rooms(scripts [][]int) (short, whole [][]int) {
	for _, s := range scripts {
		a, b := sample.Room(s, 4711)
		short, whole = append(short, a), append(whole, b)
	}
	short, more := sample.Room(short, []int{4711})
	return short, append(whole, more[len(scripts):]...)
}

// refused: Run tells this error, bare, and nothing else.
func refused(t *testing.T, why string, w api.World, scripts [][]int, hands int, want api.Errno) {
	t.Helper()
	handed, whole := sample.Roomy(w)
	short, long := rooms(scripts)
	before := fmt.Sprint(whole, long)
	got, err := farm.Run(handed, short, hands)
	if err != error(want) || len(got) > 0 {
		t.Errorf("%s: %v, %v, want error %d", why, got, err, want)
	}
	if fmt.Sprint(whole, long) != before {
		t.Errorf("%s: what is refused changes something", why)
	}
}

// document is the world of the document's text.
func document(t *testing.T) api.World {
	t.Helper()
	w, err := boot.Read(sample.Document)
	if err != nil {
		t.Fatal(err)
	}
	return w
}

// The document's example.
func TestDocument(t *testing.T) {
	w := document(t)
	ends(t, "the document's scripts", w, [][]int{{0, 0, 0}, {1}, {7}},
		farm.End{Sum: 3993650, Time: 3}, farm.End{Sum: 3993629, Time: 1}, farm.End{Err: api.ErrRange})
	ends(t, "in another order", w, [][]int{{7}, {1}, {0, 0, 0}, {1}},
		farm.End{Err: api.ErrRange}, farm.End{Sum: 3993629, Time: 1}, farm.End{Sum: 3993650, Time: 3}, farm.End{Sum: 3993629, Time: 1})
}

// O1: without a script nothing comes; of a script without steps the world as it is.
func TestNothing(t *testing.T) {
	w := sample.Full()
	ends(t, "no list", w, nil)
	ends(t, "an empty list", w, [][]int{})
	is := farm.End{Sum: farm.Sum(w), Time: 7}
	ends(t, "empty scripts", w, [][]int{nil, {}}, is, is)
	ends(t, "of nothing", sample.Hollow(1, 1, 0), [][]int{nil, {0}, {0, 0}}, farm.End{}, farm.End{Time: 1}, farm.End{Time: 2})
}

// O1: each script has its own error, and then neither Sum nor Time; the others have theirs all the same.
func TestErrors(t *testing.T) {
	wrong, ok := farm.End{Err: api.ErrRange}, farm.End{Time: 2}
	w := sample.Hollow(3, 2, 0)
	ends(t, "no core", w, [][]int{{0, 1}, {2}, {0, 1, 2}, {1, 0}, {-1}, {0, math.MaxInt}, {math.MinInt}, {0, 0}}, ok, wrong, wrong, ok, wrong, wrong, wrong, ok)
	ends(t, "too many steps", w, [][]int{make([]int, 600), make([]int, 601), make([]int, 1000), {1, 1}}, farm.End{Time: 600}, wrong, wrong, ok)
	w.Time = 999998
	ends(t, "too late", w, [][]int{{0, 0}, {0, 0, 0}, {1, 0}, nil}, farm.End{Time: 1000000}, wrong, farm.End{Time: 1000000}, farm.End{Time: 999998})
	w.Time = 1000000
	ends(t, "at last", w, [][]int{nil, {0}}, farm.End{Time: 1000000}, wrong)
}

// O1: each script begins with the world as it was handed in.
func TestEachOnItsOwn(t *testing.T) {
	w := document(t)
	two := []farm.End{{Sum: 3993650, Time: 3}, {Sum: 3993629, Time: 1}}
	ends(t, "40 scripts", w, slices.Repeat([][]int{{0, 0, 0}, {1}}, 20), slices.Repeat(two, 20)...)
	same := []int{0, 0, 0}
	ends(t, "one script twice, in the same memory", w, [][]int{same, same[:0], same}, two[0], farm.End{Sum: farm.Sum(w)}, two[0])
}

// unsound are worlds that are not sound.
func unsound() map[string]sample.Change {
	return map[string]sample.Change{
		"nothing":           func(w *api.World) { *w = api.World{} },
		"too late":          func(w *api.World) { w.Time = 1000001 },
		"too early":         func(w *api.World) { w.Time = -1 },
		"too short":         func(w *api.World) { w.Ram = w.Ram[1:] },
		"no word":           func(w *api.World) { w.Ram[383] = 65536 },
		"no such kind":      func(w *api.World) { w.Kinds[23] = api.Clay },
		"no such core":      func(w *api.World) { w.Tasks[sample.Runs].Core = 2 },
		"no register":       func(w *api.World) { w.Tasks[sample.Still].Regs[7] = -1 },
		"both ways at once": func(w *api.World) { w.Tasks[sample.Calls].State = api.Waiting },
		"wrongly told":      func(w *api.World) { w.Tlbs[1][0].Frame = sample.Page },
	}
}

// O1: ErrState ahead of everything, then ErrRange; whatever the scripts are.
func TestRefused(t *testing.T) {
	fine, many := [][]int{{0}, {7}}, make([][]int, 41)
	for why, spoil := range unsound() {
		w := sample.Full()
		if spoil(&w); world.Check(w) == nil {
			t.Fatalf("%s: it is sound", why)
		}
		for _, hands := range []int{math.MinInt, -1, 0, 1, 8, 9, math.MaxInt} {
			refused(t, why, w, fine, hands, api.ErrState)
			refused(t, why, w, many, hands, api.ErrState)
			refused(t, why, w, nil, hands, api.ErrState)
		}
	}
	for _, hands := range []int{math.MinInt, -1, 0, 9, 10, math.MaxInt} {
		for _, scripts := range [][][]int{nil, {nil}, fine, make([][]int, 40), many} {
			refused(t, fmt.Sprint(hands, " hands"), sample.Full(), scripts, hands, api.ErrRange)
		}
	}
	for hands := 1; hands <= 8; hands++ {
		refused(t, "41 scripts", sample.Full(), many, hands, api.ErrRange)
		refused(t, "41 that have errors", sample.Full(), slices.Repeat([][]int{{7}}, 41), hands, api.ErrRange)
		refused(t, "1000 scripts", sample.Full(), make([][]int, 1000), hands, api.ErrRange)
	}
}

// Z2: what comes hangs on what is handed in alone, if Runs of different worlds and scripts go on at once as well.
func TestRunsAtOnce(t *testing.T) {
	var all sync.WaitGroup
	for n := range 8 {
		d := sample.Die(n)
		w, scripts := lively(&d), scripts(&d)
		want := retold(w, scripts)
		for hands := 1; hands <= 8; hands += 3 {
			all.Add(1)
			go func() {
				defer all.Done()
				if got, err := farm.Run(w, scripts, hands); err != nil || !slices.Equal(got, want) {
					t.Errorf("%d hands: %v, %v, want %v", hands, got, err, want)
				}
			}()
		}
	}
	all.Wait()
}

// Nobody plays on when Run has answered, whatever it answered.
func TestNobodyIsLeft(t *testing.T) {
	w, before := document(t), runtime.NumGoroutine()
	for hands := 0; hands <= 9; hands++ {
		for _, scripts := range [][][]int{nil, {{7}}, {{0, 0}, {7}, {1}}, make([][]int, 40), make([][]int, 41)} {
			farm.Run(w, scripts, hands)
			farm.Run(api.World{}, scripts, hands)
		}
	}
	for n := 0; runtime.NumGoroutine() > before; n++ {
		if n == 5000 {
			t.Fatalf("%d are left", runtime.NumGoroutine()-before)
		}
		time.Sleep(time.Millisecond) // one that is home may still be on its way out
	}
}
