package boot_test

import (
	"fmt"
	"strings"
	"testing"

	"keyhold/api"
	"keyhold/boot"
	"keyhold/clay"
	"keyhold/kernel"
	"keyhold/sample"
	"keyhold/tree"
	"keyhold/word"
)

// document is the document's text.
const document = sample.Document

// documentWorld is its world, by hand.
func documentWorld() api.World {
	w := sample.Hollow(24, 2, 0, 1)
	w.Kinds[0], w.Slots[0] = api.Node, sample.Key(api.Node, 0, 7, 0, -1)
	w.Slots[1] = sample.Clay(1, 16, 8)
	for i, kind := range []int{api.Node, api.Space, api.Table, api.Page, api.Page, api.Task, api.Task, api.Door} {
		w.Kinds[1+i], w.Slots[2+i] = kind, sample.Key(kind, 1+i, 7, 0, 1)
	}
	w.Slots[10] = sample.Key(api.Door, 8, 3, 5, 9)
	w.Ram[16*2], w.Ram[16*3] = 0x8003, 0xc004
	copy(w.Ram[16*4:], []int{0x0110, 9, 0x0120, 7, 0x0e00, 1, 0x0c00, 0})
	w.Tasks[6].Node, w.Tasks[6].Space = 0, 2
	w.Tasks[7].Node, w.Tasks[7].Space, w.Tasks[7].Helper = 0, 2, 8
	sample.Queue(&w, 6, 0, 1, 0)
	sample.Queue(&w, 7, 1, 1, 0)
	return w
}

func TestDocument(t *testing.T) {
	reads(t, document, documentWorld())
	for n, line := range strings.Split(strings.TrimSuffix(document, "\n"), "\n") {
		if n == 0 || n > 11 && n < 17 {
			continue
		}
		ahead := strings.Join(strings.Split(document, "\n")[:n], "\n") + "\n"
		wrongAt(t, ahead+line+" x", map[bool]api.Errno{true: api.ErrShort, false: api.ErrWord}[strings.HasPrefix(line, "make")], n)
	}
}

// What the document's session tells of it.
func TestDocumentSession(t *testing.T) {
	w, err := boot.Read(document)
	if err != nil {
		t.Fatal(err)
	}
	told := func(what string, got, want any) {
		t.Helper()
		if fmt.Sprint(got) != fmt.Sprint(want) {
			t.Errorf("%s: %v, want %v", what, got, want)
		}
	}
	told("frames", w.Kinds, "[5 5 4 3 2 2 6 6 7 0 0 0 0 0 0 0 0 0 0 0 0 0 0 0]")
	for slot, want := range map[int]string{1: "1 430470000 -1", 10: "7 1d01030005 9"} {
		n, _ := word.Pack(w.Slots[slot].Key)
		told("slot", fmt.Sprintf("%d %x %d", w.Slots[slot].Key.Kind, n, w.Slots[slot].From), want)
	}
	hex, _ := word.Hex(w.Ram[64:80])
	told("ram 4", hex, "0110 0009 0120 0007 0e00 0001 0c00 0000 0000 0000 0000 0000 0000 0000 0000 0000")
	do := func(next api.World, err error) {
		t.Helper()
		if err != nil {
			t.Fatal(err)
		}
		w = next
	}
	do(kernel.Run(w, []int{0, 0, 0}))
	told("task 6", fmt.Sprint(w.Tasks[6].State, w.Tasks[6].Prio, w.Tasks[6].Pc, w.Tasks[6].Regs), "2 1 6 [0 9 7 0 0 0 0 0]")
	told("cores", w.Cores, "[-1 -1]")
	do(kernel.Step(w, 1))
	do(kernel.Run(w, []int{1, 1, 1}))
	told("task 7", fmt.Sprint(w.Tasks[7].State, w.Tasks[7].Prio, w.Tasks[7].Pc, w.Tasks[7].Regs), "1 1 2 [0 9 0 0 0 0 0 0]")
	do(tree.Revoke(w, 9))
	told("slot 10", w.Slots[10], sample.Hollow(1, 1, 0).Slots[0])
	do(tree.Drop(w, 7))
	told("frames", w.Kinds, "[5 5 4 3 2 2 0 6 7 0 0 0 0 0 0 0 0 0 0 0 0 0 0 0]")
	do(clay.Make(w, 1, 2, 1, 13))
	told("time", w.Time, 7)
}
