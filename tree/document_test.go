package tree_test

import (
	"slices"
	"testing"

	"keyhold/api"
	"keyhold/sample"
	"keyhold/tree"
)

// The document's world, as far as its keys go: a node, a space, a table, two pages, two tasks, a door out of clay; a copy of the door's key.
func documentWorld() api.World {
	w := sample.Hollow(24, 2, 0, 1)
	w.Kinds[0], w.Slots[0] = api.Node, key(api.Node, 0, 7, 0, -1)
	w.Slots[1] = clay(1, 16, 8)
	for i, kind := range []int{api.Node, api.Space, api.Table, api.Page, api.Page, api.Task, api.Task, api.Door} {
		w.Kinds[1+i], w.Slots[2+i] = kind, key(kind, 1+i, 7, 0, 1)
	}
	return w
}

// The document's example: copy 9 10 3 5, under 9, revoke 9, drop 7.
func TestDocument(t *testing.T) {
	w, err := tree.Copy(documentWorld(), 9, 10, 3, 5)
	if err != nil || w.Slots[10] != key(api.Door, 8, 3, 5, 9) {
		t.Fatalf("copy 9 10 3 5: %v, %v", w.Slots, err)
	}
	if l, err := tree.Under(w, 9); err != nil || !slices.Equal(l, []int{10}) {
		t.Errorf("under 9: %v, %v", l, err)
	}
	w, err = tree.Revoke(w, 9)
	if err != nil || w.Slots[10] != empty {
		t.Fatalf("revoke 9: %v, %v", w.Slots, err)
	}
	w, err = tree.Drop(w, 7)
	if err != nil || !slices.Equal(w.Kinds[:10], []int{5, 5, 4, 3, 2, 2, 0, 6, 7, 0}) {
		t.Fatalf("drop 7: %v, %v", w.Kinds, err)
	}
	if _, err = tree.Drop(w, 99); err != error(api.ErrEmpty) {
		t.Errorf("drop 99: %v", err)
	}
}
