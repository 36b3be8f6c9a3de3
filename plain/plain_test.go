package plain_test

import (
	"math"
	"testing"

	"keyhold/api"
	"keyhold/plain"
	"keyhold/sample"
)

func TestNumbers(t *testing.T) {
	for v, want := range map[int]bool{math.MinInt: false, 1: false, 2: true, 3: true, 4: true, 5: false, math.MaxInt: false} {
		if plain.Within(v, 2, 4) != want {
			t.Errorf("%d is within 2 to 4: not %v", v, want)
		}
	}
	for v, want := range map[int]bool{math.MinInt: false, -1: false, 0: true, 65535: true, 65536: false} {
		if plain.IsWord(v) != want {
			t.Errorf("%d is a word: not %v", v, want)
		}
	}
}

func TestFramesCoresSlots(t *testing.T) {
	w := sample.Full()
	for f, kind := range w.Kinds {
		if !plain.Is(&w, f, kind) || plain.Is(&w, f, kind+1) {
			t.Errorf("frame %d is of kind %d alone", f, kind)
		}
	}
	for _, f := range []int{math.MinInt, -1, 24, math.MaxInt} {
		if plain.Is(&w, f, api.None) {
			t.Errorf("%d is no frame", f)
		}
	}
	for n, want := range map[int]bool{math.MinInt: false, -1: false, 0: true, 23: true, 24: false, math.MaxInt: false} {
		if plain.IsFrame(&w, n) != want {
			t.Errorf("%d is a frame: not %v", n, want)
		}
	}
	for n, want := range map[int]bool{math.MinInt: false, -1: false, 0: true, 1: true, 2: false, math.MaxInt: false} {
		if plain.IsCore(&w, n) != want {
			t.Errorf("%d is a core: not %v", n, want)
		}
	}
	for n, want := range map[int]bool{math.MinInt: false, -1: false, 0: true, 383: true, 384: false, math.MaxInt: false} {
		if plain.IsSlot(&w, n) != want {
			t.Errorf("%d is a slot: not %v", n, want)
		}
	}
}

// Of no frame, of one of another kind, of one of this kind.
func TestThing(t *testing.T) {
	w := sample.Full()
	for n, want := range map[int]error{
		math.MinInt: api.ErrRange, -1: api.ErrRange, 24: api.ErrRange, math.MaxInt: api.ErrRange,
		0: api.ErrKind, 23: api.ErrKind, sample.Bell: api.ErrKind, sample.Runs: api.ErrKind,
		sample.Door: nil, sample.Desk: nil,
	} {
		if err := plain.Thing(&w, n, api.Door); err != want {
			t.Errorf("%d as a door: %v, want %v", n, err, want)
		}
	}
}

// Of no slot, of an empty one, of one with whatever key.
func TestFull(t *testing.T) {
	w := sample.Full()
	for n, want := range map[int]error{
		math.MinInt: api.ErrRange, -1: api.ErrRange, 384: api.ErrRange, math.MaxInt: api.ErrRange,
		24: api.ErrEmpty, 31: api.ErrEmpty, 32: api.ErrEmpty, 383: api.ErrEmpty,
		0: nil, 1: nil, 18: nil, 19: nil, 23: nil,
	} {
		if err := plain.Full(&w, n); err != want {
			t.Errorf("slot %d: %v, want %v", n, err, want)
		}
	}
}

// Only what the tables tell, just so, is told; and only of a thing that is a space.
func TestTold(t *testing.T) {
	w := sample.Full()
	for e, want := range map[api.Entry]bool{
		{Space: sample.Space, Page: 0, Frame: sample.Page}:               true,
		{Space: sample.Space, Page: 1, Frame: sample.Page2, Write: true}: true,
		{Space: sample.Space, Page: 1, Frame: sample.Page2}:              false,
		{Space: sample.Space, Page: 0, Frame: sample.Page, Write: true}:  false,
		{Space: sample.Space, Page: 0, Frame: sample.Page2}:              false,
		{Space: sample.Space, Page: 2, Frame: 0}:                         false,
		{Space: sample.Space, Page: -1, Frame: sample.Page}:              false,
		{Space: sample.Space, Page: 256, Frame: sample.Page}:             false,
		{Space: sample.Space, Page: math.MaxInt, Frame: sample.Page}:     false,
		{Space: sample.Space, Page: 1 << 60, Frame: sample.Page}:         false, // times 16 it is 0
		{Space: sample.Table, Page: 0, Frame: sample.Page}:               false,
		{Space: -1, Page: 0, Frame: sample.Page}:                         false,
		{Space: math.MaxInt, Page: 0, Frame: sample.Page}:                false,
	} {
		if plain.Told(&w, e) != want {
			t.Errorf("%v is told: not %v", e, want)
		}
	}
	w.Ram[16*sample.Space+15], w.Ram[16*sample.Table+15] = 0x8003, 0x8004
	if !plain.Told(&w, api.Entry{Space: sample.Space, Page: 255, Frame: sample.Page}) {
		t.Error("the last page of a space is told")
	}
	w.Kinds[sample.Space] = api.None
	if plain.Told(&w, api.Entry{Space: sample.Space, Page: 0, Frame: sample.Page}) {
		t.Error("of a space that is gone nothing is told")
	}
}

// E1: what stands where nothing is.
func TestNothing(t *testing.T) {
	if plain.Blank() != (api.Running{Node: -1, Space: -1, Helper: -1, At: -1, Owes: -1}) {
		t.Errorf("blank: %v", plain.Blank())
	}
	if plain.Empty() != (api.Slot{From: -1}) {
		t.Errorf("empty: %v", plain.Empty())
	}
}
