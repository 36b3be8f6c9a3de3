package console_test

import (
	"fmt"
	"slices"
	"strings"
	"sync"
	"testing"

	"keyhold/console"
	"keyhold/sample"
)

// booted are the lines that make the document's world.
const booted = "boot\n" + sample.Document + "end\n"

// answers are the lines that a session answers, without their newlines.
func answers(t *testing.T, text string) []string {
	t.Helper()
	all := console.Session(text)
	if all == "" {
		return nil
	}
	l := strings.Split(all, "\n")
	if last := len(l) - 1; l[last] != "" {
		t.Fatalf("%q: the last line of %q has no newline", text, all)
	}
	return l[:len(l)-1]
}

// says: a session has just these answers, whether a newline ends it or not.
func says(t *testing.T, text string, want ...string) {
	t.Helper()
	if got := answers(t, text); !slices.Equal(got, want) {
		t.Errorf("%q: %q, want %q", text, got, want)
	}
	if last := len(text) - 1; last > 0 && text[last] == '\n' && text[last-1] != '\n' {
		if got := answers(t, text[:last]); !slices.Equal(got, want) {
			t.Errorf("%q without its last newline: %q, want %q", text, got, want)
		}
	}
}

// talks: behind the document's world, each of these lines has its answer: line, answer, line, answer ..
func talks(t *testing.T, pairs ...string) {
	t.Helper()
	text, want := booted, []string{"ok"}
	for n := 0; n < len(pairs); n += 2 {
		text += pairs[n] + "\n"
		want = append(want, pairs[n+1])
	}
	got := answers(t, text)
	if len(got) != len(want) {
		t.Fatalf("%q: %d answers, want %d: %q", text, len(got), len(want), got)
	}
	for n := range want {
		if got[n] == want[n] {
			continue
		}
		if n == 0 {
			t.Fatalf("the world: %q, want %q", got[0], want[0])
		}
		t.Errorf("%q behind %q: %q, want %q", pairs[2*n-2], pairs[:2*n-2], got[n], want[n])
	}
}

// The document's session.
func TestDocument(t *testing.T) {
	talks(t,
		"frames", "5 5 4 3 2 2 6 6 7 0 0 0 0 0 0 0 0 0 0 0 0 0 0 0",
		"parts", "0 0 0 0 0 0 0 0 0 0 0 0 0 0 0 0 0 17 18 19 20 21 22 23",
		"slot 1", "1 430470000 -1",
		"slot 10", "7 1d01030005 9",
		"ram 4", "0110 0009 0120 0007 0e00 0001 0c00 0000 0000 0000 0000 0000 0000 0000 0000 0000",
		"run 0 0 0", "ok",
		"task 6", "2 1 6 0 9 7 0 0 0 0 0",
		"cores", "-1 -1",
		"call 1 0", "error 6",
		"step 1", "ok",
		"task 7", "1 1 2 0 9 0 0 0 0 0 0",
		"run 1 1 1", "ok",
		"task 7", "1 1 2 0 9 0 0 0 0 0 0",
		"under 9", "10",
		"revoke 9", "ok",
		"slot 10", "0 0 -1",
		"drop 7", "ok",
		"frames", "5 5 4 3 2 2 0 6 7 0 0 0 0 0 0 0 0 0 0 0 0 0 0 0",
		"make 1 2 1 13", "ok",
		"drop 99", "error 6",
		"call 0 99", "error 6",
		"time", "7",
		"foo", "bad",
	)
}

// What README.md tells of a session.
func TestReadme(t *testing.T) {
	says(t, "boot\nworld 24 2 0 1\nclay 1 1 16\nmake page 1 2 2\nend\nslot 2\ncopy 2 3 1 0\ncopy 2 4 1 0\nunder 1\nrevoke 2\nunder 1\nrun 0 1 7\n",
		"ok", "2 821070000 1", "error 12", "ok", "2 3 4", "ok", "2 3", "error 2 at 2")
	says(t, "boot\nworld 24 2 0 1\nend\nstep 0\ntime\n", "ok", "ok", "1")
}

// Q1: a text of MaxText bytes is answered; of one more nothing but that it is too long, whatever it says.
func TestTooLong(t *testing.T) {
	says(t, strings.Repeat("time\n", 800), slices.Repeat([]string{"error 6"}, 800)...)
	says(t, strings.Repeat("time\n", 799)+"time ", append(slices.Repeat([]string{"error 6"}, 799), "bad")...)
	says(t, strings.Repeat("time\n", 799)+"foo\n\n", append(slices.Repeat([]string{"error 6"}, 799), "bad", "bad")...)
	says(t, strings.Repeat("x", 4000), "bad")
	says(t, strings.Repeat("\u00e9", 2000), "bad")
	says(t, strings.Repeat("\n", 4000), slices.Repeat([]string{"bad"}, 4000)...)
	for _, text := range []string{
		strings.Repeat("time\n", 801), strings.Repeat("time\n", 800) + "\n", strings.Repeat("x", 4001), strings.Repeat("\n", 4001), strings.Repeat("\u00e9", 2001),
		strings.Repeat("\x00", 4001), booted + strings.Repeat("x", 4001-len(booted)), "boot\n" + strings.Repeat("\n", 4000), strings.Repeat("time\n", 20000),
	} {
		if got := console.Session(text); got != "too long\n" {
			t.Errorf("of %d bytes: %.80q", len(text), got)
		}
	}
}

// Q1: lines are parted by newlines alone; one at the end begins no further line, two do.
func TestLines(t *testing.T) {
	says(t, "")
	says(t, "\n", "bad")
	says(t, "\n\n", "bad", "bad")
	says(t, "time", "error 6")
	says(t, "time\n", "error 6")
	says(t, "time\n\n", "error 6", "bad")
	says(t, "\ntime", "bad", "error 6")
	says(t, "time\nfoo\ntime", "error 6", "bad", "error 6")
	says(t, "time\r\ntime\r", "bad", "bad")
	says(t, "time\x00\ntime\vtime\n", "bad", "bad")
	says(t, " ", "bad")
}

// Q1: words are parted by each blank, so that two blanks have a word between that is empty.
func TestBlanks(t *testing.T) {
	talks(t,
		" time", "bad", "time ", "bad", " ", "bad", "", "bad", "\ttime", "bad", "time\t", "bad",
		"slot", "bad", "slot ", "error 1", "slot  ", "bad", "slot  1", "bad", "slot 1 ", "bad", " slot 1", "bad", "slot\t1", "bad", "slot \t1", "error 1",
		"move 1 ", "error 1", "move  1", "error 1", "move  ", "error 1", "run ", "error 1", "run 0 ", "error 1", "run  0", "error 1", "run", "bad",
		"time", "0",
	)
}

// Q1: any other first word; letters count as they are.
func TestNames(t *testing.T) {
	for _, name := range []string{
		"foo", "Time", "TIME", "times", "tim", "t", "end", "End", "boot.", "Boot", "world", "clay", "put", "code", "enter", "equip", "start", "halt", "read", "stop", "0", "-", ".", "ok", "bad", "error",
		"time:", "frame", "core", "part", "slots", "tasks", "too", "\xff", "\u00e9",
	} {
		for _, behind := range []string{"", " 1", " 1 1", " 1 1 1 1", " x", " "} {
			talks(t, name+behind, "bad", "time", "0")
			says(t, name+behind, "bad")
		}
	}
}

// howMany numbers there are behind each name (of run it is 1 to 40).
func howMany() map[string]int {
	return map[string]int{
		"time": 0, "frames": 0, "cores": 0, "parts": 0, "slot": 1, "ram": 1, "task": 1, "step": 1, "drop": 1, "revoke": 1, "under": 1,
		"call": 2, "move": 2, "copy": 4, "make": 4,
	}
}

// Q1: not as many words behind the name, whatever they are, and whether there is a world or not; as many: that there is none is told ahead of what they are.
func TestHowMany(t *testing.T) {
	for name, many := range howMany() {
		for n := range 8 {
			for _, word := range []string{" 1", " x", " ", " 99999"} {
				line := name + strings.Repeat(word, n)
				if n != many {
					talks(t, line, "bad", "time", "0")
					says(t, line, "bad")
				} else {
					says(t, line, "error 6")
				}
			}
			if n == many && n > 0 {
				talks(t, name+strings.Repeat(" x", n), "error 1")
			}
		}
	}
}

// Q1: run has 1 to 40 numbers.
func TestHowManyOfRun(t *testing.T) {
	for many, want := range map[int]string{0: "bad", 1: "ok", 2: "ok", 39: "ok", 40: "ok", 41: "bad", 42: "bad", 80: "bad", 600: "bad", 601: "bad"} {
		after := "0"
		if want == "ok" {
			after = fmt.Sprint(many)
		}
		talks(t, "run"+strings.Repeat(" 0", many), want, "time", after)
		if want == "ok" {
			talks(t, "run"+strings.Repeat(" 0", many-1)+" x", "error 1", "time", "0")
			says(t, "run"+strings.Repeat(" x", many), "error 6")
		} else {
			says(t, "run"+strings.Repeat(" 0", many), "bad")
		}
	}
}

// Q1: numbers have 1 to 5 digits, without a 0 ahead of others; there is none below 0.
func TestNumbers(t *testing.T) {
	for _, n := range []string{"", "00", "01", "007", "000001", "100000", "-", "-1", "-0", "+1", "x", "1x", "x1", "0x1", "1.", ".", "1,", "\u0661", "1\u0661", "\xff", "1\x00", "1e1", "99999999999999999999", "r1"} {
		for _, line := range []string{
			"slot N", "ram N", "task N", "step N", "drop N", "revoke N", "under N", "run N", "run 0 N", "run N 99999", "run 99999 N", "call N 99999", "call 99999 N", "move N 99999", "move 99999 N",
			"copy N 11 1 1", "copy 99999 N 1 1", "copy 99999 11 N 1", "copy 99999 11 1 N", "make N 2 1 13", "make 99999 N 1 13", "make 99999 2 N 13", "make 99999 2 1 N",
		} {
			line = strings.Replace(line, "N", n, 1)
			talks(t, line, "error 1", "time", "0")
			says(t, line, "error 6")
		}
	}
	talks(t, "slot 99999", "error 2", "slot 10000", "error 2", "slot 0", "5 1401070000 -1", "run 0 99999", "error 2 at 1")
}

// Sessions know nothing of each other, one behind the other or at once.
func TestApart(t *testing.T) {
	text := booted + "run 0 0 0 1\ntask 6\ntime\nrevoke 1\nframes\n"
	want := console.Session(text)
	says(t, "time\nframes\n", "error 6", "error 6")
	var away sync.WaitGroup
	got := make([]string, 16)
	for n := range got {
		away.Go(func() { got[n] = console.Session(text) })
	}
	away.Wait()
	for _, s := range got {
		if s != want {
			t.Fatalf("%q, want %q", s, want)
		}
	}
}
