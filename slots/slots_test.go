package slots_test

import (
	"fmt"
	"math"
	"testing"

	"keyhold/api"
	"keyhold/sample"
	"keyhold/slots"
)

// nested is a full world in which slot 2 of frame 0 leads to node 1, and there slot 9 to frame 0, slot 15 to node 1 itself.
func nested() api.World {
	w := sample.Full()
	w.Slots[16+9] = sample.Key(api.Node, sample.Root, 0, 0, 0)
	w.Slots[16+15] = sample.Key(api.Node, sample.Node, 1, 0, 2)
	return w
}

func TestFind(t *testing.T) {
	for _, c := range []struct {
		node, at, want int
		err            error
	}{
		{0, 0, 0, nil}, {0, 1, 1, nil}, {0, 15, 15, nil}, {1, 0, 16, nil}, {1, 15, 31, nil},
		// By a key to a node: of slot at / 16, slot at modulo 16 of that node.
		{0, 2 * 16, 16, nil}, {0, 2*16 + 15, 31, nil}, {0, 2*16 + 7, 23, nil},
		{1, 9 * 16, 0, nil}, {1, 9*16 + 15, 15, nil}, {1, 255, 31, nil}, {1, 240, 16, nil},
		// The key that leads there: none (though slot 0 is to a node, no address has it), clay, an empty slot, other things.
		{0, 16, 0, api.ErrKind}, {0, 31, 0, api.ErrKind}, {0, 3 * 16, 0, api.ErrKind}, {0, 255, 0, api.ErrKind},
		{1, 16, 0, api.ErrKind}, {1, 8*16 + 3, 0, api.ErrKind}, {1, 3 * 16, 0, api.ErrKind}, {1, 239, 0, api.ErrKind},
		{0, -1, 0, api.ErrRange}, {0, 256, 0, api.ErrRange}, {1, math.MinInt, 0, api.ErrRange}, {1, math.MaxInt, 0, api.ErrRange},
		{2, 0, 0, api.ErrKind}, {sample.Page, 3, 0, api.ErrKind}, {23, 0, 0, api.ErrKind},
		{-1, 0, 0, api.ErrKind}, {24, 0, 0, api.ErrKind}, {math.MinInt, 0, 0, api.ErrKind}, {math.MaxInt, 0, 0, api.ErrKind},
		// A node that is none is told ahead of an address that is none.
		{2, -1, 0, api.ErrKind}, {-1, 256, 0, api.ErrKind},
	} {
		got, err := slots.Find(nested(), c.node, c.at)
		if got != c.want || err != c.err {
			t.Errorf("Find(%d, %d): %d, %v; want %d, %v", c.node, c.at, got, err, c.want, c.err)
		}
	}
}

// Each address from a node on, by the words of the chapter.
func TestFindAll(t *testing.T) {
	w := nested()
	for node := range 2 {
		for at := range 256 {
			want, wantErr := 16*node+at, error(nil)
			if at > 15 {
				k := w.Slots[16*node+at/16].Key
				want = 16*k.Base + at%16
				if k.Kind != api.Node {
					want, wantErr = 0, api.ErrKind
				}
			}
			if got, err := slots.Find(w, node, at); got != want || err != wantErr {
				t.Errorf("Find(%d, %d): %d, %v; want %d, %v", node, at, got, err, want, wantErr)
			}
		}
	}
}

func TestGet(t *testing.T) {
	w := nested()
	for _, c := range []struct {
		node, at, kind, rights int
		slot                   int // whose key it is; -1: none
		err                    error
	}{
		{0, 0, api.Node, 0, 0, nil}, {0, 0, api.Node, 7, 0, nil}, {0, 1, api.Clay, 7, 1, nil}, {0, 5, api.Page, 3, 5, nil},
		{1, 4, api.Door, 3, 20, nil}, {1, 4, api.Door, 1, 20, nil}, {1, 4, api.Door, 2, 20, nil}, {1, 4, api.Door, 0, 20, nil},
		{0, 2*16 + 4, api.Door, 3, 20, nil}, {1, 7, api.Bell, 6, 23, nil}, {1, 255, api.Node, 1, 31, nil}, {1, 9, api.Node, 0, 25, nil},
		// What Find says.
		{2, 0, api.Node, 0, -1, api.ErrKind}, {0, 256, api.Node, 0, -1, api.ErrRange}, {0, -1, api.Node, 0, -1, api.ErrRange}, {0, 48, api.Node, 0, -1, api.ErrKind},
		// Nothing, whatever is asked for.
		{1, 8, api.Page, 0, -1, api.ErrEmpty}, {1, 8, api.None, 0, -1, api.ErrEmpty}, {1, 8, api.None, 8, -1, api.ErrEmpty}, {0, 2*16 + 14, 99, -1, -1, api.ErrEmpty},
		// Another kind, whatever the rights.
		{0, 0, api.Page, 0, -1, api.ErrKind}, {0, 0, api.None, 0, -1, api.ErrKind}, {0, 0, 9, 8, -1, api.ErrKind}, {0, 0, -1, 0, -1, api.ErrKind}, {1, 4, api.Bell, 4, -1, api.ErrKind},
		// Not all rights.
		{1, 4, api.Door, 4, -1, api.ErrRight}, {1, 4, api.Door, 7, -1, api.ErrRight}, {1, 4, api.Door, 5, -1, api.ErrRight},
		{1, 7, api.Bell, 1, -1, api.ErrRight}, {1, 9, api.Node, 1, -1, api.ErrRight},
		// Bits of a whole number: there are more than three.
		{0, 0, api.Node, 8, -1, api.ErrRight}, {0, 0, api.Node, 15, -1, api.ErrRight}, {0, 0, api.Node, 1 << 40, -1, api.ErrRight},
		{0, 0, api.Node, -1, -1, api.ErrRight}, {0, 0, api.Node, -8, -1, api.ErrRight}, {0, 0, api.Node, math.MinInt, -1, api.ErrRight}, {0, 0, api.Node, math.MaxInt, -1, api.ErrRight},
	} {
		var want api.Key
		if c.slot >= 0 {
			want = w.Slots[c.slot].Key
		}
		got, err := slots.Get(w, c.node, c.at, c.kind, c.rights)
		if got != want || err != c.err {
			t.Errorf("Get(%d, %d, %d, %d): %v, %v; want %v, %v", c.node, c.at, c.kind, c.rights, got, err, want, c.err)
		}
	}
}

// An unsound world is told ahead of all else.
func TestUnsound(t *testing.T) {
	bad := nested()
	bad.Time = -1
	ragged := nested()
	ragged.Slots = ragged.Slots[:20]
	for _, w := range []api.World{{}, bad, ragged} {
		for _, at := range [][2]int{{0, 0}, {0, 40}, {-1, 0}, {0, 256}} {
			if slot, err := slots.Find(w, at[0], at[1]); slot != 0 || err != error(api.ErrState) {
				t.Errorf("Find in an unsound world: %d, %v", slot, err)
			}
			if k, err := slots.Get(w, at[0], at[1], api.Node, 0); k != (api.Key{}) || err != error(api.ErrState) {
				t.Errorf("Get in an unsound world: %v, %v", k, err)
			}
		}
	}
}

// Z2: nothing is written, nor is what stands behind the lists read.
func TestNothingIsWritten(t *testing.T) {
	w, whole := sample.Roomy(nested())
	before := fmt.Sprint(whole)
	for at := -1; at < 257; at++ {
		slot, err := slots.Find(w, 1, at)
		k, refused := slots.Get(w, 1, at, api.Door, 1)
		other, otherErr := slots.Find(nested(), 1, at)
		otherKey, otherRefused := slots.Get(nested(), 1, at, api.Door, 1)
		if slot != other || err != otherErr || k != otherKey || refused != otherRefused {
			t.Errorf("at %d what is told hangs on what stands behind the lists", at)
		}
	}
	if fmt.Sprint(whole) != before {
		t.Error("the world is written into")
	}
}
