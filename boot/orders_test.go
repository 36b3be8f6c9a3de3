package boot_test

import (
	"fmt"
	"slices"
	"strings"
	"testing"

	"keyhold/api"
	"keyhold/sample"
)

// L1, `world`: New, and a node in it whose key is in its own first slot.
func TestWorld(t *testing.T) {
	for _, frames := range []int{1, 2, 24} {
		for _, doms := range [][]int{{0}, {3}, {0, 1, 2, 3, 3, 2, 1, 0}} {
			for cores := 1; cores <= 4; cores++ {
				w := sample.Hollow(frames, cores, doms...)
				w.Kinds[0], w.Slots[0] = api.Node, sample.Key(api.Node, 0, 7, 0, -1)
				reads(t, fmt.Sprintln("world", frames, cores, strings.Trim(fmt.Sprint(doms), "[]")), w)
			}
		}
	}
	for _, line := range []string{
		"world 0 1 0", "world 25 1 0", "world 1 0 0", "world 1 5 0", "world - 1 0", "world 1 - 0", "world 1 1 0 0 0 0 0 0 0 0 0",
		"world 1 1 4", "world 1 1 -", "world 1 1 0 1 4", "world 1 1 0 1 2 3 - 4", "world 1 1 65535",
	} {
		wrongAt(t, line, api.ErrRange, 0)
	}
}

// L1, `world`: once; ahead of all else that may be wrong.
func TestWorldTwice(t *testing.T) {
	for _, line := range []string{"world 24 2 0 1", "world 1 1 0", "world", "world x", "world 1 1", "world 99 1 0", "world ", "world 1 1 4"} {
		wrong(t, "", line, api.ErrTwice)
		wrongAt(t, "world 1 1 0\n"+line, api.ErrTwice, 1)
	}
}

func clayIn(slot, base, length int) sample.Change {
	return func(w *api.World) { w.Slots[slot] = sample.Clay(base, length, 0) }
}

// L1, `clay`: a key of clay, all rights, nothing of it used, made from none.
func TestClay(t *testing.T) {
	does(t, "", "clay 14 21 3", clayIn(14, 21, 3))
	does(t, "", "clay 15 21 1", clayIn(15, 21, 1))
	does(t, "", "clay 31 23 1", clayIn(31, 23, 1))
	does(t, "clay 16 21 1\n", "clay 31 22 2", clayIn(31, 22, 2))
	does(t, "clay 16 23 1\n", "clay 31 21 2", clayIn(31, 21, 2))
	for _, line := range []string{
		"clay - 21 1", "clay 384 21 1", "clay 99999 21 1", "clay 14 - 1", "clay 14 21 0", "clay 14 21 -", "clay 14 21 4", "clay 14 22 3", "clay 14 23 2", "clay 14 24 1",
		"clay 14 99999 1", "clay 14 0 25", "clay 14 21 99999", "clay 14 99999 99999", "clay 14 24 0",
	} {
		wrong(t, "", line, api.ErrRange)
	}
	for _, slot := range []int{32, 47, 64, 96, 144, 176, 192, 208, 352, 383} {
		wrong(t, "", fmt.Sprint("clay ", slot, " 21 1"), api.ErrKind)
	}
	for slot := range 14 {
		wrong(t, "", fmt.Sprint("clay ", slot, " 21 1"), api.ErrTwice)
	}
	wrong(t, "clay 14 21 1\n", "clay 14 22 1", api.ErrTwice)
	for _, line := range []string{"clay 14 0 1", "clay 14 0 24", "clay 14 1 1", "clay 14 12 1", "clay 14 13 1", "clay 14 20 1", "clay 14 20 4", "clay 14 18 3"} {
		wrong(t, "", line, api.ErrBusy)
	}
	wrong(t, "clay 14 22 1\n", "clay 15 21 2", api.ErrBusy)
	wrong(t, "clay 14 22 1\n", "clay 15 22 2", api.ErrBusy)
	wrong(t, "clay 14 22 1\n", "clay 15 21 3", api.ErrBusy)
	// The one that is named first.
	wrong(t, "", "clay 32 24 1", api.ErrRange)
	wrong(t, "", "clay 13 21 0", api.ErrRange)
	wrong(t, "", "clay 32 0 1", api.ErrKind)
	wrong(t, "", "clay 13 0 1", api.ErrTwice)
}

// In a world of fewer frames than may be, it is its own that count.
func TestClayOfFewFrames(t *testing.T) {
	w := sample.Hollow(3, 1, 0)
	w.Kinds[0], w.Slots[0], w.Slots[15] = api.Node, sample.Key(api.Node, 0, 7, 0, -1), sample.Clay(1, 2, 0)
	reads(t, "world 3 1 0\nclay 15 1 2", w)
	wrongAt(t, "world 3 1 0\nclay 15 1 3", api.ErrRange, 1)
	wrongAt(t, "world 3 1 0\nclay 15 3 1", api.ErrRange, 1)
	wrongAt(t, "world 3 1 0\nclay 48 1 1", api.ErrRange, 1)
	wrongAt(t, "world 3 1 0\nclay 47 1 1", api.ErrKind, 1)
}

// L1, `make`: what Make does, by the kind's name.
func TestMake(t *testing.T) {
	for name, kind := range map[string]int{"page": 2, "table": 3, "space": 4, "node": 5, "task": 6, "door": 7, "bell": 8} {
		does(t, "", "make "+name+" 1 1 31", func(w *api.World) {
			w.Kinds[13], w.Slots[31], w.Slots[1].Key.Mark = kind, sample.Key(kind, 13, 7, 0, 1), 13
		})
		does(t, "", "make "+name+" 1 8 16", func(w *api.World) {
			for i := range 8 {
				w.Kinds[13+i], w.Slots[16+i] = kind, sample.Key(kind, 13+i, 7, 0, 1)
			}
			w.Slots[1].Key.Mark = 20
		})
		wrong(t, "", "make "+name+" 1 9 16", api.ErrFull)
	}
	does(t, "clay 31 21 3\n", "make door 31 2 14", func(w *api.World) {
		w.Kinds[21], w.Kinds[22], w.Slots[31].Key.Mark = api.Door, api.Door, 2
		w.Slots[14], w.Slots[15] = sample.Key(api.Door, 21, 7, 0, 31), sample.Key(api.Door, 22, 7, 0, 31)
	})
	for line, want := range map[string]api.Errno{
		"make page - 1 14": api.ErrRange, "make page 384 1 14": api.ErrRange, "make page 1 1 -": api.ErrRange, "make page 1 1 384": api.ErrRange,
		"make page 14 1 15": api.ErrEmpty, "make page 2 1 15": api.ErrKind, "make page 1 1 32": api.ErrKind,
		"make page 1 0 14": api.ErrRange, "make page 1 - 14": api.ErrRange, "make page 1 3 14": api.ErrRange, "make page 1 99999 14": api.ErrRange,
		"make page 1 2 13": api.ErrTwice, "make page 1 1 0": api.ErrTwice,
	} {
		wrong(t, "", line, want)
	}
}

// L1, `make`: how many words there are, then the kind's name, then numbers.
func TestMakeWords(t *testing.T) {
	for _, line := range []string{"make", "make page", "make page 1", "make page 1 1", "make page 1 1 14 1", "make foo 1 1", "make page x 1", "make page 1 1 14 x", "make page 1 1 14 ", "make foo x 1 14 1"} {
		wrong(t, "", line, api.ErrShort)
	}
	for _, name := range []string{"", "foo", "clay", "none", "Page", "pages", "pag", "2", "frame", "-", "page:"} {
		wrong(t, "", "make "+name+" 1 1 14", api.ErrName)
		wrong(t, "", "make "+name+" x 1 14", api.ErrName)
		wrong(t, "", "make "+name+" - 1 14", api.ErrName)
	}
	for _, line := range []string{"make page x 1 14", "make page 1 x 14", "make page 1 1 x", "make page 1 1 ", "make page  1 14", "make page 1  14"} {
		wrong(t, "", line, api.ErrWord)
	}
	wrong(t, "", "make page - 0 x", api.ErrWord)
}

// L1, `copy`: what Copy does.
func TestCopy(t *testing.T) {
	does(t, "", "copy 0 14 7 0", func(w *api.World) { w.Slots[14] = sample.Key(api.Node, root, 7, 0, 0) })
	does(t, "", "copy 7 31 1 0", func(w *api.World) { w.Slots[31] = sample.Key(api.Page, page, 1, 0, 7) })
	does(t, "", "copy 12 16 3 5", func(w *api.World) { w.Slots[16] = sample.Key(api.Door, door, 3, 5, 12) })
	does(t, "", "copy 13 16 0 65535", func(w *api.World) { w.Slots[16] = sample.Key(api.Bell, bell, 0, 65535, 13) })
	does(t, "copy 12 16 3 5\n", "copy 16 17 6 0", func(w *api.World) { w.Slots[17] = sample.Key(api.Door, door, 2, 5, 16) })
	for line, want := range map[string]api.Errno{
		"copy - 14 7 0": api.ErrRange, "copy 384 14 7 0": api.ErrRange, "copy 14 15 7 0": api.ErrEmpty, "copy 0 - 7 0": api.ErrRange, "copy 0 384 7 0": api.ErrRange,
		"copy 0 32 7 0": api.ErrKind, "copy 0 13 7 0": api.ErrTwice, "copy 0 0 7 0": api.ErrTwice, "copy 1 14 7 0": api.ErrKind,
		"copy 0 14 8 0": api.ErrRange, "copy 0 14 - 0": api.ErrRange, "copy 12 14 7 65536": api.ErrRange, "copy 12 14 7 -": api.ErrRange, "copy 7 14 7 1": api.ErrRight,
	} {
		wrong(t, "", line, want)
	}
	wrong(t, "copy 12 16 3 5\n", "copy 16 17 6 4", api.ErrRight)
}

// L1, `put`: a word of a page.
func TestPut(t *testing.T) {
	for _, frame := range []int{page, page3} {
		for _, at := range []int{0, 7, 15} {
			for _, v := range []int{0, 1, 65535} {
				does(t, "", fmt.Sprint("put ", frame, at, v), func(w *api.World) { w.Ram[16*frame+at] = v })
			}
		}
	}
	does(t, "put 6 3 70\n", "put 6 3 71", func(w *api.World) { w.Ram[16*page+3] = 71 })
	does(t, "put 6 3 70\n", "put 6 3 0", func(w *api.World) { w.Ram[16*page+3] = 0 })
	for _, line := range []string{"put - 0 1", "put 24 0 1", "put 99999 0 1", "put 6 16 1", "put 6 - 1", "put 6 99999 1", "put 24 16 99999", "put 6 16 99999"} {
		wrong(t, "", line, api.ErrRange)
	}
	for _, frame := range []int{root, node, space, table, task, door, bell, unused, 23} {
		wrong(t, "", fmt.Sprint("put ", frame, " 0 1"), api.ErrKind)
		wrong(t, "", fmt.Sprint("put ", frame, " 16 99999"), api.ErrKind)
	}
	wrong(t, "", "put 6 0 65536", api.ErrWord)
	wrong(t, "", "put 6 0 -", api.ErrWord)
}

// puts: words from a frame's first one on.
func puts(frame int, words ...int) sample.Change {
	return func(w *api.World) { copy(w.Ram[16*frame:], words) }
}

// halts: so many lines, each of them an instruction whose words are 0.
func halts(many int) string { return strings.Repeat("halt\n", many) }

// L1, `code`: instructions, two words each, from page to page.
func TestCode(t *testing.T) {
	does(t, "", "code 6\nset r1 9\nsys -1\njump 0\n.", puts(page, 0x110, 9, 0xe00, 65535, 0xc00, 0))
	does(t, "", "code 7\nset r1 3\nloop:\nsub r1 r2\nzero r1 loop\n.\n", puts(page2, 0x110, 3, 0x412, 0, 0xd10, 2))
	does(t, "", "code 8\nload r1 r2 -1\n.", puts(page3, 2578, 65535))
	does(t, "put 6 0 5\nput 6 1 5\nput 6 2 5\n", "code 6\nhalt\n.", puts(page, 0, 0))
	for _, many := range []int{1, 7, 8, 9, 16, 17, 23, 24} {
		lines, words := "", []int{}
		for i := range many {
			lines += fmt.Sprintln("set r7", i)
			words = append(words, 0x170, i)
		}
		does(t, "", "code 6\n"+lines+".", puts(page, words...))
	}
	does(t, "make page 1 2 14\n", "code 13\n"+halts(16)+".", asItIs)
	does(t, "code 6\nset r1 1\n.\n", "code 6\nset r2 2\n.", puts(page, 0x120, 2))
}

// L1, `code`: ErrKind, if there is an instruction, and one of these frames isn't a page.
func TestCodeNoPage(t *testing.T) {
	for _, frame := range []string{"-", "0", "1", "2", "4", "9", "11", "12", "13", "23", "24", "25", "99999"} {
		wrong(t, "", "code "+frame+"\nhalt\n.", api.ErrKind)
		does(t, "", "code "+frame+"\n.", asItIs)
		does(t, "", "code "+frame+"\na:\nb:\n.", asItIs)
	}
	wrong(t, "", "code 8\n"+halts(9)+".", api.ErrKind)
	wrong(t, "", "code 7\n"+halts(17)+".", api.ErrKind)
	wrong(t, "", "code 6\n"+halts(25)+".", api.ErrKind)
	wrong(t, "", "code 6\n"+halts(40)+".", api.ErrKind)
	wrong(t, "", "code 5\n"+halts(9)+".", api.ErrKind)
	wrong(t, "", "code -\n"+halts(9)+".", api.ErrKind)
	pages := "world 3 1 0\nclay 1 1 2\nmake page 1 2 2\n"
	wrongAt(t, pages+"code 1\n"+halts(17)+".", api.ErrKind, 3)
	wrongAt(t, pages+"code 2\n"+halts(9)+".", api.ErrKind, 3)
	wrongAt(t, pages+"code -\n"+halts(9)+".", api.ErrKind, 3)
}

// L1, `code`: what Parse says, at the line of `code`, ahead of what frames are.
func TestCodeParsed(t *testing.T) {
	for lines, want := range map[string]api.Errno{
		"foo\n": api.ErrCall, "halt\nhalt\nfoo\n": api.ErrCall, "set r1\n": api.ErrShort, "set r8 1\n": api.ErrWord, "set r1 32768\n": api.ErrRange, "jump a\n": api.ErrName,
		"a:\na:\n": api.ErrTwice, "A:\n": api.ErrName, "halt 1\n": api.ErrWord, "foo\nA:\n": api.ErrName, halts(41): api.ErrRange, halts(41) + "A:\n": api.ErrName,
		"\n": api.ErrCall, "halt\n\n": api.ErrCall, "\nhalt\n": api.ErrCall, " .\n": api.ErrCall, ". \n": api.ErrCall, "..\n": api.ErrCall, "code 6\n": api.ErrCall, "put 6 0 1\n": api.ErrCall,
		"world 1 1 0\n": api.ErrCall, ".:\n": api.ErrName,
	} {
		wrong(t, "", "code 6\n"+lines+".", want)
		wrong(t, "", "code 0\n"+lines+".", want)
		wrong(t, "", "code -\n"+lines+".", want)
		wrong(t, "put 6 0 1\n", "code 6\n"+lines+".", want)
	}
	wrong(t, "", "code 6 \nfoo\n.", api.ErrWord)
	wrong(t, "", "code x\nfoo\n.", api.ErrWord)
	wrong(t, "", "code\nfoo\n.", api.ErrShort)
	wrong(t, "", "code 6 6\nfoo\n.", api.ErrShort)
	wrong(t, "", "code 6 x\nfoo\n.", api.ErrWord)
}

// L1, `code`: ErrShort without a dot alone, ahead of what the lines are.
func TestCodeWithoutEnd(t *testing.T) {
	at := strings.Count(base, "\n")
	for _, lines := range []string{"", "\n", "\nhalt", "\nhalt\n", "\nfoo\n", "\n .", "\n. \n", "\n..", "\nhalt .", "\nhalt\nput 6 0 1\n"} {
		wrongAt(t, base+"code 6"+lines, api.ErrShort, at)
		wrongAt(t, base+"code 0"+lines, api.ErrShort, at)
		wrongAt(t, base+"code -"+lines, api.ErrShort, at)
		wrongAt(t, base+"code 6\n.\ncode 6"+lines, api.ErrShort, at+2)
	}
	wrong(t, "code 6\n.\n", ".", api.ErrName)
	does(t, "code 6\nhalt\n.\n", "put 6 0 1", puts(page, 1))
}

func tells(frame, entry, word int) sample.Change {
	return func(w *api.World) { w.Ram[16*frame+entry] = word }
}

// L1, `enter`: of a table, into the space; whether it is to be written makes no difference.
func TestEnterTable(t *testing.T) {
	for _, at := range []int{0, 1, 15, 16, 31, 128, 240, 255} {
		for write := range 2 {
			does(t, "", fmt.Sprint("enter 2 ", at, " 4 ", write), tells(space, at/16, 0x8004))
			does(t, "", fmt.Sprint("enter 3 ", at, " 5 ", write), tells(space2, at/16, 0x8005))
		}
	}
	does(t, "enter 2 0 4 0\n", "enter 2 16 4 0", tells(space, 1, 0x8004))
	does(t, "enter 2 0 4 0\n", "enter 3 0 4 0", tells(space2, 0, 0x8004))
	for _, at := range []int{0, 1, 15} {
		wrong(t, "enter 2 7 4 0\n", fmt.Sprint("enter 2 ", at, " 4 0"), api.ErrTwice)
		wrong(t, "enter 2 7 4 0\n", fmt.Sprint("enter 2 ", at, " 5 1"), api.ErrTwice)
	}
}

// L1, `enter`: of a page, into the table that the space tells there.
func TestEnterPage(t *testing.T) {
	const ahead = "enter 2 0 4 0\nenter 2 255 5 0\n"
	for _, at := range []int{0, 1, 15} {
		does(t, ahead, fmt.Sprint("enter 2 ", at, " 6 0"), tells(table, at, 0x8006))
		does(t, ahead, fmt.Sprint("enter 2 ", at, " 6 1"), tells(table, at, 0xc006))
		does(t, ahead, fmt.Sprint("enter 2 ", 240+at, " 8 0"), tells(table2, at, 0x8008))
		does(t, ahead, fmt.Sprint("enter 2 ", 240+at, " 8 1"), tells(table2, at, 0xc008))
		wrong(t, ahead, fmt.Sprint("enter 3 ", at, " 6 0"), api.ErrMap)
		wrong(t, "", fmt.Sprint("enter 2 ", at, " 6 0"), api.ErrMap)
	}
	does(t, ahead+"enter 2 0 6 0\n", "enter 2 1 6 1", tells(table, 1, 0xc006))
	does(t, ahead+"enter 3 32 4 0\n", "enter 3 33 6 1", tells(table, 1, 0xc006))
	for _, at := range []int{16, 17, 31, 239} {
		wrong(t, ahead, fmt.Sprint("enter 2 ", at, " 6 0"), api.ErrMap)
	}
	for _, line := range []string{"enter 2 3 6 0", "enter 2 3 6 1", "enter 2 3 7 1"} {
		wrong(t, ahead+"enter 2 3 6 0\n", line, api.ErrTwice)
	}
	wrong(t, ahead+"enter 3 0 4 0\nenter 2 3 6 0\n", "enter 3 3 6 0", api.ErrTwice)
}

// L1, `enter`: what is wrong with its numbers, and which of several things is told.
func TestEnterOrder(t *testing.T) {
	for _, line := range []string{
		"enter - 0 4 0", "enter 24 0 4 0", "enter 99999 0 4 0", "enter 2 - 4 0", "enter 2 256 4 0", "enter 2 99999 4 0", "enter 2 0 4 2", "enter 2 0 4 -", "enter 2 0 6 2",
		"enter 2 0 - 0", "enter 2 0 24 0", "enter 2 256 0 0", "enter 2 0 0 2", "enter 24 256 24 2", "enter 2 256 6 0",
	} {
		wrong(t, "", line, api.ErrRange)
	}
	for _, frame := range []int{root, node, table, page, task, door, bell, unused, 23} {
		wrong(t, "", fmt.Sprint("enter ", frame, " 0 4 0"), api.ErrKind)
		wrong(t, "", fmt.Sprint("enter ", frame, " 256 24 2"), api.ErrKind)
	}
	for _, frame := range []int{root, node, space, space2, task, door, bell, unused, 23} {
		wrong(t, "", fmt.Sprint("enter 2 0 ", frame, " 0"), api.ErrKind)
		wrong(t, "enter 2 0 4 0\nenter 2 0 6 0\n", fmt.Sprint("enter 2 0 ", frame, " 1"), api.ErrKind)
	}
	wrong(t, "enter 2 0 4 0\n", "enter 2 256 4 0", api.ErrRange)
	wrong(t, "enter 2 0 4 0\n", "enter 2 0 4 2", api.ErrRange)
}

// L1, `equip`: a task has all these, and nothing else of it changes.
func TestEquip(t *testing.T) {
	has := func(of, node, space, helper, core, prio, dom int) sample.Change {
		return func(w *api.World) {
			r := &w.Tasks[of]
			r.Node, r.Space, r.Helper, r.Core, r.Prio, r.Dom = node, space, helper, core, prio, dom
		}
	}
	does(t, "", "equip 9 0 2 11 1 3 3", has(task, root, space, door, 1, 3, 3))
	does(t, "", "equip 10 1 3 - 0 0 0", has(task2, node, space2, -1, 0, 0, 0))
	does(t, "", "equip 9 - 2 11 1 1 2", has(task, -1, space, door, 1, 1, 2))
	does(t, "", "equip 9 1 - 11 1 1 2", has(task, node, -1, door, 1, 1, 2))
	does(t, "", "equip 9 - - - 0 0 0", asItIs)
	does(t, "equip 9 0 2 11 1 3 3\n", "equip 9 - - - 0 0 0", has(task, -1, -1, -1, 0, 0, 0))
	does(t, "equip 9 0 2 11 1 3 3\n", "equip 9 1 3 - 0 1 2", has(task, node, space2, -1, 0, 1, 2))
}

// L1, `equip`: what is wrong with its numbers, and which of several things is told.
func TestEquipOrder(t *testing.T) {
	good := []string{"9", "0", "2", "11", "1", "3", "3"}
	line := func(n int, v string) string {
		l := slices.Clone(good)
		l[n] = v
		for i := n + 1; i < 7 && n < 4; i++ {
			l[i] = "24" // whatever is wrong behind it
		}
		return "equip " + strings.Join(l, " ")
	}
	for n, kind := range []int{api.Task, api.Node, api.Space, api.Door} {
		for _, v := range []string{"24", "99999"} {
			wrong(t, "", line(n, v), api.ErrRange)
		}
		for frame, of := range based().Kinds {
			if of != kind {
				wrong(t, "", line(n, fmt.Sprint(frame)), api.ErrKind)
			}
		}
	}
	wrong(t, "", line(0, "-"), api.ErrRange)
	for n, l := range map[int][]string{4: {"-", "2", "99999"}, 5: {"-", "4", "99999"}, 6: {"-", "4", "99999"}} {
		for _, v := range l {
			wrong(t, "", line(n, v), api.ErrRange)
			wrong(t, "start 9\n", line(n, v), api.ErrRange)
		}
	}
	wrong(t, "start 9\n", "equip 9 0 2 11 1 3 3", api.ErrBusy)
	wrong(t, "start 9\n", "equip 9 - - - 0 0 0", api.ErrBusy)
	wrong(t, "start 9\n", "equip 9 2 2 11 1 3 3", api.ErrKind)
	does(t, "start 9\n", "equip 10 - - - 0 2 0", func(w *api.World) { w.Tasks[task2].Prio = 2 })
}

// L1, `start`: what Start does.
func TestStart(t *testing.T) {
	starts := func(of, ready int) sample.Change {
		return func(w *api.World) {
			w.Tasks[of].State = api.Ready
			w.Ready[ready] = append(w.Ready[ready], of)
		}
	}
	does(t, "", "start 9", starts(task, 0))
	does(t, "start 9\n", "start 10", starts(task2, 0))
	does(t, "start 10\n", "start 9", starts(task, 0))
	does(t, "equip 9 0 2 - 1 3 1\n", "start 9", starts(task, 7))
	for _, line := range []string{"start -", "start 24", "start 99999"} {
		wrong(t, "", line, api.ErrRange)
	}
	for frame, kind := range based().Kinds {
		if kind != api.Task {
			wrong(t, "", fmt.Sprint("start ", frame), api.ErrKind)
		}
	}
	wrong(t, "start 9\n", "start 9", api.ErrBusy)
}
