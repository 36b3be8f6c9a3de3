package deed_test

import (
	"fmt"
	"slices"
	"testing"

	"keyhold/api"
	"keyhold/deed"
	"keyhold/sample"
	"keyhold/world"
)

// entered: what is done to a full world tells this error, and changes words as is wanted, and nothing else; it stays sound.
func entered(t *testing.T, why string, do func(w *api.World) error, want api.Errno, wanted sample.Change) {
	t.Helper()
	w, then := sample.Full(), sample.Full()
	wanted(&then)
	if got, _ := api.Tell(do(&w)); got != want {
		t.Errorf("%s: error %d, want %d", why, got, want)
	}
	if wrong := sample.Differences(w, then, fmt.Sprint); wrong != "" {
		t.Errorf("%s: %s", why, wrong)
	}
	if err := world.Check(w); err != nil {
		t.Errorf("%s: %v", why, err)
	}
}

func asItIs(w *api.World) {}

func TestEnter(t *testing.T) {
	enters := func(page, frame int, write bool) func(w *api.World) error {
		return func(w *api.World) error { return deed.Enter(w, sample.Space, page, frame, write) }
	}
	for _, page := range []int{16, 31, 255} {
		why := fmt.Sprint("page ", page)
		entered(t, "a table, "+why, enters(page, sample.Table, false), api.OK, func(w *api.World) { w.Ram[16*sample.Space+page/16] = 0x8003 })
		entered(t, "where no table is, "+why, enters(page, sample.Page, false), api.ErrMap, asItIs)
	}
	for _, page := range []int{2, 15} {
		why := fmt.Sprint("page ", page)
		entered(t, "to be read, "+why, enters(page, sample.Page, false), api.OK, func(w *api.World) { w.Ram[16*sample.Table+page] = 0x8004 })
		entered(t, "to be written, "+why, enters(page, sample.Page2, true), api.OK, func(w *api.World) { w.Ram[16*sample.Table+page] = 0xc005 })
	}
	for _, page := range []int{0, 1, 15} {
		entered(t, fmt.Sprint("a table where one is, page ", page), enters(page, sample.Table, false), api.ErrTwice, asItIs)
	}
	entered(t, "a page where one is", enters(1, sample.Page2, true), api.ErrTwice, asItIs)
}

func TestRemove(t *testing.T) {
	removes := func(page int) func(w *api.World) error {
		return func(w *api.World) error { return deed.Remove(w, sample.Space, page) }
	}
	entered(t, "the first page", removes(0), api.OK, func(w *api.World) {
		w.Ram[16*sample.Table] = 0
		w.Tlbs[0] = w.Tlbs[0][1:]
	})
	entered(t, "a page that both cores remember", removes(1), api.OK, func(w *api.World) {
		w.Ram[16*sample.Table+1] = 0
		w.Tlbs[0], w.Tlbs[1] = w.Tlbs[0][:1], nil
	})
	for _, page := range []int{2, 15, 16, 255} {
		entered(t, fmt.Sprint("page ", page), removes(page), api.ErrMap, asItIs)
	}
}

// What tables tell just so is remembered still, in its order.
func TestForget(t *testing.T) {
	entered(t, "all is told", func(w *api.World) error { deed.Forget(w); return nil }, api.OK, asItIs)
	w := sample.Full()
	w.Tlbs[1] = []api.Entry{
		{Space: sample.Space, Page: 2, Frame: sample.Page}, w.Tlbs[0][1], {Space: sample.Space, Page: 0, Frame: sample.Page, Write: true},
		{Space: sample.Table, Page: 0, Frame: sample.Page}, w.Tlbs[0][0],
	}
	known := slices.Clone(w.Tlbs[0])
	deed.Forget(&w)
	if !slices.Equal(w.Tlbs[1], []api.Entry{known[1], known[0]}) || !slices.Equal(w.Tlbs[0], known) {
		t.Errorf("remembered: %v", w.Tlbs)
	}
}
