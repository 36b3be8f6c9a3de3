package console_test

import (
	"fmt"
	"strings"
	"testing"
)

// noughts are the words of a frame in which nothing is.
var noughts = strings.TrimSuffix(strings.Repeat("0000 ", 16), " ")

// kinds of the document's world.
const kinds = "5 5 4 3 2 2 6 6 7 0 0 0 0 0 0 0 0 0 0 0 0 0 0 0"

// Time goes on by steps alone, of a core with nobody on it, too.
func TestTime(t *testing.T) {
	talks(t, "time", "0", "step 0", "ok", "time", "1", "step 1", "ok", "time", "2", "run 0 1 0", "ok", "time", "5",
		"copy 9 11 7 0", "ok", "move 11 12", "ok", "drop 12", "ok", "revoke 9", "ok", "make 1 2 1 13", "ok", "call 0 9", "error 6", "slot 0", "5 1401070000 -1", "time", "5",
		"run"+strings.Repeat(" 1", 40), "ok", "time", "45")
}

func TestFramesAndCores(t *testing.T) {
	talks(t, "frames", kinds, "cores", "-1 -1", "step 1", "ok", "cores", "-1 7", "step 0", "ok", "cores", "6 7", "run 0 0", "ok", "cores", "-1 7",
		"make 1 8 2 11", "ok", "frames", "5 5 4 3 2 2 6 6 7 8 8 0 0 0 0 0 0 0 0 0 0 0 0 0")
	says(t, block("world 1 4 3")+"frames\ncores\n", "ok", "5", "-1 -1 -1 -1")
}

// A slot's key is told by its Kind, its number without noughts ahead, and its From; whether one is in it or not.
func TestSlot(t *testing.T) {
	talks(t, "slot 0", "5 1401070000 -1", "slot 1", "1 430470000 -1", "slot 2", "5 1421070000 1", "slot 9", "7 1d01070000 1", "slot 10", "7 1d01030005 9",
		"slot 11", "0 0 -1", "slot 15", "0 0 -1", "slot 16", "0 0 -1", "slot 32", "0 0 -1", "slot 383", "0 0 -1", "slot 384", "error 2", "slot 99999", "error 2",
		"copy 9 31 0 65535", "ok", "slot 31", "7 1d0100ffff 9", "copy 31 30 7 0", "ok", "slot 30", "7 1d0100ffff 31", "make 1 8 1 15", "ok", "slot 15", "8 2121070000 1")
	says(t, block(small)+"slot 15\nslot 16\n", "ok", "0 0 -1", "error 2")
	says(t, block("world 24 1 0", "clay 15 0 1")+"frames\n", "error 7 at 1", "error 6")
	says(t, block("world 24 1 0", "clay 15 1 23")+"slot 15\n", "ok", "1 437070000 -1")
}

func TestRam(t *testing.T) {
	talks(t, "ram 0", noughts, "ram 2", "8003"+noughts[4:], "ram 3", "c004"+noughts[4:], "ram 4", "0110 0009 0120 0007 0e00 0001 0c00"+noughts[34:], "ram 5", noughts,
		"ram 23", noughts, "ram 24", "error 2", "ram 99999", "error 2", "ram 384", "error 2")
	says(t, block("world 3 1 0", "clay 1 1 2", "make page 1 2 2", "put 1 0 65535", "put 1 15 10", "put 2 0 43981")+"ram 1\nram 2\nram 3\n",
		"ok", "ffff "+noughts[5:75]+"000a", "abcd"+noughts[4:], "error 2")
}

// counts is a world whose task sets each of its registers to a number of its own.
var counts = block("world 6 1 0", "clay 1 1 5", "make space 1 1 2", "make table 1 1 3", "make page 1 2 4", "make task 1 1 6", "enter 1 0 2 0", "enter 1 0 3 0", "enter 1 1 4 0",
	"code 3", "set r0 10", "set r1 11", "set r2 12", "set r3 13", "set r4 14", "set r5 15", "set r6 16", "set r7 -1", "halt", ".", "equip 5 0 1 - 0 3 0", "start 5")

// A task is told by State, Prio, Pc and its registers, in this order.
func TestTask(t *testing.T) {
	says(t, counts+"task 5\nrun 0 0 0\ntask 5\nrun 0 0 0 0 0\ntask 5\nstep 0\ntask 5\n",
		"ok", "1 3 0 0 0 0 0 0 0 0 0", "ok", "1 3 6 10 11 12 0 0 0 0 0", "ok", "1 3 16 10 11 12 13 14 15 16 65535", "ok", "0 3 16 10 11 12 13 14 15 16 65535")
	talks(t, "task 6", "1 1 0 0 0 0 0 0 0 0 0", "task 7", "1 1 0 0 0 0 0 0 0 0 0", "task 24", "error 2", "task 99999", "error 2", "run 0 0 0", "ok", "task 6", "2 1 6 0 9 7 0 0 0 0 0",
		"drop 7", "ok", "task 6", "error 3")
	for _, frame := range []int{0, 1, 2, 3, 4, 5, 8, 9, 23} {
		talks(t, fmt.Sprint("task ", frame), "error 3")
	}
}

func TestStep(t *testing.T) {
	talks(t, "step 2", "error 2", "step 99999", "error 2", "time", "0", "step 0", "ok", "task 6", "1 1 2 0 9 0 0 0 0 0 0", "task 7", "1 1 0 0 0 0 0 0 0 0 0", "step 1", "ok", "task 7", "1 1 2 0 9 0 0 0 0 0 0",
		"step 0", "ok", "step 0", "ok", "task 6", "2 1 6 0 9 7 0 0 0 0 0", "step 0", "ok", "step 1", "ok", "task 7", "1 1 2 0 9 0 0 0 0 0 0", "cores", "-1 -1", "time", "6")
}

// A run does its steps in their order; the place of one that has an error is told, and then none of them is done.
func TestRun(t *testing.T) {
	talks(t, "run 0", "ok", "run 0 1", "ok", "time", "3", "task 6", "1 1 4 0 9 7 0 0 0 0 0", "task 7", "1 1 2 0 9 0 0 0 0 0 0",
		"run 2", "error 2 at 0", "run 0 2", "error 2 at 1", "run 0 1 0 1 9 2", "error 2 at 4", "run"+strings.Repeat(" 0", 39)+" 65536", "error 2 at 39", "time", "3", "task 6", "1 1 4 0 9 7 0 0 0 0 0",
		"run"+strings.Repeat(" 0", 40), "ok", "time", "43")
}

// Who is on the core asks for something; what is wrong with that is told in register 0 alone.
func TestCall(t *testing.T) {
	talks(t, "call 0 0", "error 6", "call 2 0", "error 2", "call 99999 99999", "error 2", "step 0", "ok", "call 0 18", "ok", "task 6", "1 1 2 13 9 0 0 0 0 0 0", "call 0 99999", "ok", "task 6", "1 1 2 13 9 0 0 0 0 0 0",
		"call 0 4", "ok", "task 6", "1 1 2 6 9 0 0 0 0 0 0", "call 1 0", "error 6", "cores", "6 -1", "call 0 0", "ok", "task 6", "1 1 2 0 9 0 0 0 0 0 0", "cores", "-1 -1", "call 0 0", "error 6",
		"step 0", "ok", "call 0 1", "ok", "task 6", "2 1 4 0 9 7 0 0 0 0 0", "time", "2")
	talks(t, "step 0", "ok", "call 0 10", "ok", "slot 9", "0 0 -1", "slot 10", "7 1d01030005 1", "task 6", "1 1 2 0 9 0 0 0 0 0 0")
}

func TestCopy(t *testing.T) {
	talks(t, "copy 9 11 5 7", "ok", "slot 11", "7 1d01050007 9", "copy 11 12 6 0", "ok", "slot 12", "7 1d01040007 11", "copy 10 13 7 0", "ok", "slot 13", "7 1d01030005 10", "copy 0 31 0 0", "ok", "slot 31", "5 1401000000 0",
		"copy 384 14 7 0", "error 2", "copy 99999 14 7 0", "error 2", "copy 14 15 7 0", "error 6", "copy 9 384 7 0", "error 2", "copy 9 32 7 0", "error 3", "copy 9 10 7 0", "error 12",
		"copy 1 14 7 0", "error 3", "copy 9 14 8 0", "error 2", "copy 9 14 7 65536", "error 2", "copy 10 14 7 6", "error 4", "copy 5 14 7 1", "error 4", "slot 14", "0 0 -1")
}

func TestMove(t *testing.T) {
	talks(t, "move 9 17", "ok", "slot 9", "0 0 -1", "slot 17", "7 1d01070000 1", "slot 10", "7 1d01030005 17", "under 17", "10", "move 1 9", "ok", "slot 2", "5 1421070000 9",
		"move 384 11", "error 2", "move 11 12", "error 6", "move 0 384", "error 2", "move 0 32", "error 3", "move 0 2", "error 12", "move 0 0", "error 12", "slot 0", "5 1401070000 -1")
}

func TestDropAndRevoke(t *testing.T) {
	talks(t, "drop 384", "error 2", "drop 11", "error 6", "revoke 384", "error 2", "revoke 11", "error 6", "drop 9", "ok", "slot 10", "7 1d01030005 1", "frames", kinds, "drop 10", "ok",
		"frames", "5 5 4 3 2 2 6 6 0 0 0 0 0 0 0 0 0 0 0 0 0 0 0 0", "drop 4", "ok", "ram 2", noughts, "revoke 1", "ok", "frames", "5"+strings.Repeat(" 0", 23), "slot 1", "1 430470000 -1", "under 1", "",
		"revoke 0", "ok", "drop 1", "ok", "slot 1", "0 0 -1", "drop 0", "ok", "frames", "0"+strings.Repeat(" 0", 23), "drop 0", "error 6", "step 0", "ok")
}

func TestMake(t *testing.T) {
	talks(t, "make 1 2 1 13", "ok", "slot 13", "2 921070000 1", "slot 1", "1 4304f0000 -1", "make 1 8 7 16", "ok", "frames", "5 5 4 3 2 2 6 6 7 2 8 8 8 8 8 8 8 0 0 0 0 0 0 0", "make 1 2 1 14", "error 5",
		"make 384 2 1 14", "error 2", "make 1 2 1 384", "error 2", "make 15 2 1 14", "error 6", "make 0 2 1 14", "error 3", "make 1 1 1 14", "error 3", "make 1 9 1 14", "error 3", "make 1 0 1 14", "error 3",
		"make 1 2 1 32", "error 3", "make 1 2 0 14", "error 2", "make 1 2 3 14", "error 2", "make 1 2 99999 14", "error 2", "make 1 2 2 13", "error 12", "revoke 1", "ok", "make 1 6 2 2", "ok", "frames", "5 6 6"+strings.Repeat(" 0", 21))
}

// Slots whose keys were made from one, rising; of none an empty line.
func TestUnder(t *testing.T) {
	talks(t, "under 1", "2 3 4 5 6 7 8 9 10", "under 9", "10", "under 10", "", "under 0", "", "under 11", "error 6", "under 384", "error 2", "copy 10 31 7 0", "ok", "copy 9 20 7 0", "ok", "copy 31 16 7 0", "ok",
		"under 9", "10 16 20 31", "under 10", "16 31", "under 1", "2 3 4 5 6 7 8 9 10 16 20 31", "under 16", "")
}

func TestParts(t *testing.T) {
	talks(t, "parts", strings.Repeat("0 ", 17)+"17 18 19 20 21 22 23", "drop 2", "ok", "move 1 11", "ok", "revoke 11", "ok", "drop 11", "ok", "parts", "0 1 2 3 4 5 6 7 8 9 10 11 12 13 14 15 16 17 18 19 20 21 22 23")
	says(t, block("world 4 1 0", "clay 1 2 2")+"parts\n", "ok", "0 1 0 0")
}

// everything asks for all that can be told of a world of eight frames, whose tasks are these.
func everything(tasks ...int) string {
	text := "time\nframes\ncores\nparts\n"
	for slot := range 64 {
		text += fmt.Sprint("slot ", slot, "\n")
	}
	for frame := range 8 {
		text += fmt.Sprint("ram ", frame, "\n")
	}
	for _, task := range tasks {
		text += fmt.Sprint("task ", task, "\n")
	}
	return text
}

// Q1: an error changes nothing; neither does what is only asked, nor what is bad.
func TestErrorChangesNothing(t *testing.T) {
	world := block("world 8 2 0 1", "clay 1 1 6", "make task 1 2 2", "make door 1 1 4", "make node 1 1 5", "copy 4 8 3 5", "equip 1 0 - - 0 1 0", "equip 2 4 - 3 1 2 1", "start 1", "start 2")
	ahead := world + "step 0\nstep 1\n"
	want := answers(t, ahead+everything(1, 2))
	for _, line := range []string{
		"foo", "time 1", "slot 128", "slot x", "ram 8", "task 0", "task 8", "step 2", "step x", "run 2", "run 0 2", "run 1 1 1 0 2", "run 0 x", "call 2 0", "call 0 0", "call 0 x", "copy 4 8 7 0", "copy 9 10 7 0", "copy 4 10 8 0", "copy 4 10 7 65536",
		"copy 8 10 7 6", "move 4 8", "move 9 10", "drop 9", "drop 128", "revoke 9", "make 1 2 3 10", "make 1 2 1 8", "make 1 9 1 10", "make 4 2 1 10", "under 9", "under 128", "", "end", "run", "boot\nend", "boot\nworld 8 2 0 1\nfoo\nend", "boot\nworld 25 1 1\nend",
		"time", "frames", "cores", "parts", "slot 1", "ram 1", "task 1", "under 1",
	} {
		got := answers(t, ahead+line+"\n"+everything(1, 2))
		if len(got) != len(want)+1 {
			t.Fatalf("%q: %d answers behind it", line, len(got))
		}
		for n := range want[3:] {
			if got[4+n] != want[3+n] {
				t.Errorf("%q: %q becomes %q", line, want[3+n], got[4+n])
			}
		}
	}
	for _, line := range []string{"step 0", "step 1", "run 0 1", "copy 4 9 7 0", "move 4 9", "drop 4", "drop 8", "revoke 1", "revoke 4", "make 1 2 1 9", "boot\nworld 8 1 0\nend"} {
		got := answers(t, ahead+line+"\n"+everything())
		if got[3] != "ok" || fmt.Sprint(got[4:]) == fmt.Sprint(want[3:len(want)-2]) {
			t.Errorf("%q: %q, and all is as it was", line, got[3])
		}
	}
}
