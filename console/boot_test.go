package console_test

import (
	"strings"
	"testing"

	"keyhold/sample"
)

// small is a world of one frame.
const small = "world 1 1 0"

// block is a world's text between its two lines.
func block(lines ...string) string {
	return strings.Join(append(append([]string{"boot"}, lines...), "end"), "\n") + "\n"
}

// Q1: both lines and all between them have one answer.
func TestBoot(t *testing.T) {
	says(t, booted, "ok")
	says(t, block(small), "ok")
	says(t, "time\n"+block(small)+"time\n", "error 6", "ok", "0")
	says(t, block("world 2 3 0 1")+"frames\ncores\n", "ok", "5 0", "-1 -1 -1")
}

// Q1: what Read says, and where; a text without lines, or of an empty one, has no line at which it could be.
func TestBootRefused(t *testing.T) {
	says(t, block()+"time\n", "error 10", "error 6")
	says(t, block("")+"time\n", "error 10", "error 6")
	says(t, block("", "")+"time\n", "error 10 at 0", "error 6")
	says(t, block("foo")+"time\n", "error 10 at 0", "error 6")
	says(t, block("world 25 1 0"), "error 2 at 0")
	says(t, block("world 1 1 4"), "error 2 at 0")
	says(t, block("world 1 x 0"), "error 1 at 0")
	says(t, block(small, "foo"), "error 11 at 1")
	says(t, block(small, "start 0"), "error 3 at 1")
	says(t, block(small, small), "error 12 at 1")
	says(t, block(small, "copy 0 1 7 0", "drop 1"), "error 11 at 2")
	says(t, block(" "+small), "error 10 at 0")
	says(t, block("world 24 2 0", "clay 1 1 16", "make page 1 17 2"), "error 2 at 2")
	says(t, block("world 24 2 0", "clay 1 1 3", "make page 1 4 2"), "error 5 at 2")
}

// Q1: lines have a newline between, and none behind the last one: an empty one at the end is no line, one ahead of others is.
func TestBootEmptyLines(t *testing.T) {
	says(t, block(small, "")+"time\n", "ok", "0")
	says(t, block(small, "", "")+"time\n", "error 11 at 1", "error 6")
	says(t, block("", small), "error 10 at 0")
	says(t, block(small, "", "copy 0 1 7 0"), "error 11 at 1")
	says(t, block(small, "copy 0 1 7 0", "")+"slot 1\n", "ok", "5 1401070000 0")
}

// Q1: only a line that is nothing else begins or ends a world's text; what is neither is answered, or belongs to the text.
func TestBootLines(t *testing.T) {
	says(t, "end\n", "bad")
	says(t, "end\nend\n"+block(small)+"end\ntime\n", "bad", "bad", "ok", "bad", "0")
	for _, line := range []string{"boot ", " boot", "boot 1", "Boot", "boot\r", "boots", "boo"} {
		says(t, line+"\n"+small+"\nend\ntime\n", "bad", "bad", "bad", "error 6")
	}
	for _, line := range []string{"end ", " end", "end 1", "End", "end\r", "ends", "en", "end.", ".", "ok", "time", "boot"} {
		says(t, "boot\n"+small+"\n"+line+"\nend\ntime\n", "error 11 at 1", "error 6")
		says(t, "boot\n"+line+"\nend\ntime\n", "error 10 at 0", "error 6")
	}
	says(t, "boot\nboot\nend\nend\n", "error 10 at 0", "bad")
	says(t, block("world 2 1 0", "code 1", "end")+"time\n", "error 10 at 1", "bad", "error 6")
	says(t, block("world 2 1 0", "code 1", "time", "."), "error 13 at 1")
}

// Q1: a text to which no end comes is not read, and no line of it is answered.
func TestBootWithoutEnd(t *testing.T) {
	says(t, "boot\n")
	says(t, "boot")
	says(t, "time\nboot\n", "error 6")
	says(t, "boot\n"+small+"\ntime\nfoo\n\n")
	says(t, block(small)+"time\nboot\nworld 9 9 9\nend \ntime\n", "ok", "0")
	says(t, "boot\n"+sample.Document)
}

// Q1: each world that is read takes the place of the one ahead; an error leaves it as it is.
func TestBootAgain(t *testing.T) {
	says(t, block(small)+block("world 2 1 0")+"frames\n", "ok", "ok", "5 0")
	says(t, block("world 2 1 0")+"step 0\ncopy 0 1 3 0\n"+block(small, "foo")+"time\nslot 1\nframes\n"+block(small)+"time\nslot 1\nframes\n",
		"ok", "ok", "ok", "error 11 at 1", "1", "5 1401030000 0", "5 0", "ok", "0", "0 0 -1", "5")
	says(t, block(small, "foo")+block(small)+"frames\n", "error 11 at 1", "ok", "5")
	says(t, block(small)+block()+"frames\n", "ok", "error 10", "5")
}

// A world's text may be as long as a session's.
func TestBootLong(t *testing.T) {
	behind := "end\nframes"
	rest := 4000 - len("boot\nworld 2 1 0\n") - len(behind) - 1
	for n, want := range map[int]string{rest: "error 11 at 1|error 6", rest + 1: "too long"} {
		says(t, "boot\nworld 2 1 0\n"+strings.Repeat("x", n)+"\n"+behind, strings.Split(want, "|")...)
	}
}
