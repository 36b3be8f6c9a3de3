package sample_test

import (
	"fmt"
	"slices"
	"strings"
	"testing"

	"keyhold/api"
	"keyhold/sample"
)

// later is a world of memory of its own, in which it is time 9.
func later(w api.World) api.World {
	next, _ := sample.Roomy(w)
	next.Time = 9
	return next
}

func asItIs(w *api.World) {}

func isLater(w *api.World) { w.Time = 9 }

// The call that does what is wanted is told nothing of; each other one is told what is wrong with it.
func TestDone(t *testing.T) {
	for want, do := range map[string]sample.Call{
		"":                                       func(w api.World) (api.World, error) { return later(w), nil },
		"error 5":                                func(w api.World) (api.World, error) { return later(w), api.ErrFull },
		"Time 0: 7,":                             func(w api.World) (api.World, error) { w, _ = sample.Roomy(w); return w, nil },
		"Ram 3: 8,":                              func(w api.World) (api.World, error) { w = later(w); w.Ram[3] = 8; return w, nil },
		"no longer sound: keyhold: error 1 at 3": func(w api.World) (api.World, error) { w = later(w); w.Ram[3] = -1; return w, nil },
		"two lists share memory": func(w api.World) (api.World, error) {
			w = later(w)
			w.Doms = w.Ram[384-17 : 384-15]
			w.Doms[1] = 1
			return w, nil
		},
		"handed in is written into": func(w api.World) (api.World, error) { next := later(w); w.Ram[3] = 8; return next, nil },
		"handed in is written": func(w api.World) (api.World, error) {
			next := later(w)
			_ = append(w.Lines[sample.Door], 8)
			return next, nil
		},
		"handed in":          func(w api.World) (api.World, error) { w.Time = 9; return w, nil },
		"in is written into": func(w api.World) (api.World, error) { next := later(w); next.Doms = w.Doms; return next, nil },
	} {
		if wrong := sample.Done(asItIs, do, isLater, fmt.Sprint); !strings.Contains(wrong, want) || (wrong == "") != (want == "") {
			t.Errorf("%q, want %q", wrong, want)
		}
	}
	do := func(w api.World) (api.World, error) { return later(w), nil }
	if wrong := sample.Done(func(w *api.World) { w.Bits[sample.Rung] = 5 }, do, isLater, fmt.Sprint); wrong != "" {
		t.Errorf("of an altered world: %q", wrong)
	}
	if wrong := sample.Done(func(w *api.World) { w.Bits[0] = 5 }, do, isLater, fmt.Sprint); !strings.Contains(wrong, "to begin with is not sound") {
		t.Errorf("of an unsound world: %q", wrong)
	}
}

// The call that refuses is told nothing of; each other one is told what is wrong with it.
func TestRefused(t *testing.T) {
	for want, do := range map[string]sample.Call{
		"":                     func(w api.World) (api.World, error) { return api.World{}, api.ErrFull },
		"<nil>, want":          func(w api.World) (api.World, error) { return api.World{}, nil },
		"error 6, want":        func(w api.World) (api.World, error) { return api.World{}, api.ErrEmpty },
		"error 5 at 1, want":   func(w api.World) (api.World, error) { return api.World{}, &api.Fault{At: 1, Err: api.ErrFull} },
		"a world beside":       func(w api.World) (api.World, error) { return later(w), api.ErrFull },
		"world beside":         func(w api.World) (api.World, error) { return api.World{Time: 1}, api.ErrFull },
		"refused changes some": func(w api.World) (api.World, error) { w.Cores[1] = 3; return api.World{}, api.ErrFull },
	} {
		if wrong := sample.Refused(sample.Full(), do, api.ErrFull, fmt.Sprint); !strings.Contains(wrong, want) || (wrong == "") != (want == "") {
			t.Errorf("%q, want %q", wrong, want)
		}
	}
}

// Each field of a world is looked at.
func TestDifferences(t *testing.T) {
	if told := sample.Differences(sample.Full(), sample.Full(), fmt.Sprint); told != "" || !sample.Same(sample.Full(), sample.Full()) {
		t.Errorf("of two that are alike: %q", told)
	}
	for want, change := range map[string]sample.Change{
		"Ram 5: 1, want 0; ":            func(w *api.World) { w.Ram[5] = 1 },
		"Kinds 23: 1, want 0; ":         func(w *api.World) { w.Kinds[23] = 1 },
		"Slots 24: {{0 0 0 0 0 0} 3}":   func(w *api.World) { w.Slots[24].From = 3 },
		"Tasks 0: {[0 0 0 0 0 0 0 0] 1": func(w *api.World) { w.Tasks[0].Pc = 1 },
		"Lines 15: [], want [10]; ":     func(w *api.World) { w.Lines[15] = nil },
		"Bits 2: 1, want 0; ":           func(w *api.World) { w.Bits[2] = 1 },
		"Cores 1: 1, want -1; ":         func(w *api.World) { w.Cores[1] = 1 },
		"Ready 6: [7 7], want [7]; ":    func(w *api.World) { w.Ready[6] = slices.Repeat(w.Ready[6], 2) },
		"Tlbs 1: [], want [{":           func(w *api.World) { w.Tlbs[1] = nil },
		"Doms: [0], want [0 1]; ":       func(w *api.World) { w.Doms = w.Doms[:1] },
		"Time 0: 9, want 7; ":           isLater,
	} {
		w := sample.Full()
		change(&w)
		if told := sample.Differences(w, sample.Full(), fmt.Sprint); !strings.HasPrefix(told, want) {
			t.Errorf("%q, want %q", told, want)
		}
		if sample.Same(w, sample.Full()) || sample.Same(sample.Full(), w) {
			t.Errorf("two are alike, in spite of %q", want)
		}
	}
}
