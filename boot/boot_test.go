package boot_test

import (
	"fmt"
	"strings"
	"testing"

	"keyhold/api"
	"keyhold/boot"
	"keyhold/sample"
	"keyhold/world"
)

// base is a text with things of all kinds: of nine lines.
const base = `world 24 2 0 1
clay 1 1 20
make node 1 1 2
make space 1 2 3
make table 1 2 5
make page 1 3 7
make task 1 2 10
make door 1 1 12
make bell 1 1 13
`

// Frames of its world: 13 to 20 are clay that is not used, 21 to 23 are nothing at all.
const (
	root = iota
	node
	space
	space2
	table
	table2
	page
	page2
	page3
	task
	task2
	door
	bell
	unused
)

// based is the world of base, by hand.
func based() api.World {
	w := sample.Hollow(24, 2, 0, 1)
	w.Kinds[root], w.Slots[0] = api.Node, sample.Key(api.Node, root, 7, 0, -1)
	w.Slots[1] = sample.Clay(1, 20, 12)
	kinds := []int{api.Node, api.Space, api.Space, api.Table, api.Table, api.Page, api.Page, api.Page, api.Task, api.Task, api.Door, api.Bell}
	for i, kind := range kinds {
		w.Kinds[1+i], w.Slots[2+i] = kind, sample.Key(kind, 1+i, 7, 0, 1)
	}
	return w
}

// isWell: of whatever text, what is read is sound, fresh, and its first frame is a node with a key to itself.
func isWell(w api.World) string {
	if err := world.Check(w); err != nil {
		return "not sound: " + err.Error()
	}
	if w.Kinds[0] != api.Node || w.Slots[0] != sample.Key(api.Node, 0, 7, 0, -1) {
		return fmt.Sprint("the first frame: ", w.Kinds[0], w.Slots[0])
	}
	if !sample.Apart(w) {
		return "two lists share memory"
	}
	return ""
}

// reads: a text's world is this one.
func reads(t *testing.T, text string, want api.World) {
	t.Helper()
	got, err := boot.Read(text)
	if err != nil {
		t.Errorf("%q: %v", text, err)
		return
	}
	if wrong := sample.Differences(got, want, fmt.Sprint); wrong != "" {
		t.Errorf("%q: %s", text, wrong)
	}
	if wrong := isWell(got); wrong != "" {
		t.Errorf("%q: %s", text, wrong)
	}
}

// does: behind base and other lines, one more changes just this.
func does(t *testing.T, ahead, line string, wanted sample.Change) {
	t.Helper()
	want := based()
	if ahead != "" {
		w, err := boot.Read(base + ahead)
		if err != nil {
			t.Fatalf("%q: %v", ahead, err)
		}
		want = w
	}
	wanted(&want)
	reads(t, base+ahead+line, want)
}

// wrongAt: a text has an error at a line (-1: at none), and no world.
func wrongAt(t *testing.T, text string, want api.Errno, at int) {
	t.Helper()
	var told error = want
	if at >= 0 {
		told = &api.Fault{At: at, Err: want}
	}
	got, err := boot.Read(text)
	if fmt.Sprintf("%T %v", err, err) != fmt.Sprintf("%T %v", told, told) {
		t.Errorf("%q: %v, want %v", text, err, told)
	}
	if f, ok := err.(*api.Fault); ok && f.Err != error(want) {
		t.Errorf("%q: %T in a fault", text, f.Err)
	}
	if fmt.Sprintf("%#v", got) != fmt.Sprintf("%#v", api.World{}) {
		t.Errorf("%q: a world beside an error, of kinds %v", text, got.Kinds)
	}
}

// wrong: behind base and other lines, one more has an error; whatever comes behind it.
func wrong(t *testing.T, ahead, line string, want api.Errno) {
	t.Helper()
	at := strings.Count(base+ahead, "\n")
	wrongAt(t, base+ahead+line, want, at)
	wrongAt(t, base+ahead+line+"\n", want, at)
	wrongAt(t, base+ahead+line+"\nworld\n\nfoo 1", want, at)
}

func asItIs(w *api.World) {}

func TestBase(t *testing.T) {
	reads(t, base, based())
	reads(t, strings.TrimSuffix(base, "\n"), based())
}

// filled is base and a code of labels alone, so that the text has so many bytes.
func filled(many int) string {
	text := base + "code -\n"
	rest := many - len(text) - len(".")
	n := 0
	for ; rest >= 20; rest -= 10 {
		text += fmt.Sprintf("a%07d:\n", n)
		n++
	}
	text += strings.Repeat("b", rest/2-2) + ":\n" + strings.Repeat("c", rest-rest/2-2) + ":\n"
	return text + "."
}

// L1: MaxText bytes are a text; with more nothing else is asked.
func TestTooLong(t *testing.T) {
	for _, many := range []int{3990, 3999, 4000} {
		if n := len(filled(many)); n != many {
			t.Fatalf("%d bytes, not %d", n, many)
		}
		reads(t, filled(many), based())
	}
	reads(t, filled(3999)+"\n", based())
	wrongAt(t, filled(4000)+"\n", api.ErrRange, -1)
	wrongAt(t, filled(4001), api.ErrRange, -1)
	wrongAt(t, strings.Repeat("\n", 4001), api.ErrRange, -1)
	wrongAt(t, strings.Repeat("\n", 4000), api.ErrShort, 0)
	wrongAt(t, strings.Repeat("\u00e9", 2001), api.ErrRange, -1)
	wrongAt(t, strings.Repeat("\u00e9", 2000), api.ErrShort, 0)
	wrongAt(t, base+strings.Repeat(" ", 4001-len(base)), api.ErrRange, -1)
}

// L1: where lines begin and end, and words.
func TestLines(t *testing.T) {
	wrongAt(t, "", api.ErrShort, -1)
	for _, text := range []string{"\n", "\n\n", " ", "foo", "foo\n", "\nworld 1 1 0", " world 1 1 0", "World 1 1 0", "world: 1 1 0", "\tworld 1 1 0", "world\t1 1 0", "worlds 1 1 0"} {
		wrongAt(t, text, api.ErrShort, 0)
	}
	for _, line := range []string{"clay 1 1 1", "make page 1 1 2", "copy 0 1 7 0", "put 1 1 1", "code 1\n.", "enter 1 1 1 1", "equip 1 1 1 1 1 1 1", "start 1", "make foo", "start x", ".", "end"} {
		wrongAt(t, line+"\nworld 1 1 0", api.ErrShort, 0)
		wrongAt(t, line, api.ErrShort, 0)
	}
	for _, text := range []string{"world  1 1 0", "world 1  1 0", "world 1 1 0 ", "world 1 1 0\r", "world 1 1\t0", "world ", "world 1 1 0\r\n"} {
		wrongAt(t, text, api.ErrWord, 0)
	}
	wrong(t, "", "\n", api.ErrName)
	wrong(t, "", "\nput 6 0 1", api.ErrName)
	wrong(t, "put 6 0 1\n", "\nput 6 0 1", api.ErrName)
	wrong(t, "", " ", api.ErrName)
	wrong(t, "", " put 6 0 1", api.ErrName)
	wrong(t, "", "put 6  0 1", api.ErrWord)
	wrong(t, "", "put 6 0 1 ", api.ErrWord)
	wrong(t, "", "put 6 0 1\r", api.ErrWord)
}

// L1: the first line that has an error is told, at its number; lines of code have numbers, too.
func TestPlaces(t *testing.T) {
	wrongAt(t, "world 1 1 0\nfoo\nbar", api.ErrName, 1)
	wrongAt(t, "world 1 1 4\nfoo", api.ErrRange, 0)
	wrongAt(t, "world 1 1 0\nstart 7\nfoo", api.ErrRange, 1)
	wrongAt(t, "world 1 1 0\nstart 0\nfoo", api.ErrKind, 1)
	wrong(t, "code 6\nhalt\nhalt\n.\n", "foo", api.ErrName)
	wrong(t, "code 6\n.\ncode -\n.\n", "foo", api.ErrName)
	wrong(t, "put 6 0 1\nput 6 1 1\n", "put 6 16 1", api.ErrRange)
	wrong(t, "code 6\nhalt\n.\n", "code 6\nhalt\nfoo\n.", api.ErrCall)
}

// L1: a number is 1 to 5 digits, without a 0 ahead of others, or `-`.
func TestNumbers(t *testing.T) {
	for _, n := range []string{"", "00", "01", "000001", "100000", "-1", "--", "-0", "+1", "1-", "x", "1x", "0x1", "r1", "1.", ".", "\u0661", "1e1"} {
		for _, line := range []string{"world N 1 0", "world 1 N 0", "world 1 1 N", "world 1 1 0 N", "world 99 N"} {
			wrongAt(t, strings.Replace(line, "N", n, 1), api.ErrWord, 0)
		}
		for _, line := range []string{
			"clay N 21 1", "clay 20 N 1", "clay 20 21 N", "make page N 1 14", "make page 1 N 14", "make page 1 1 N", "copy N 14 7 0", "copy 0 N 7 0", "copy 0 14 N 0", "copy 0 14 7 N",
			"put N 0 1", "put 6 N 1", "put 6 0 N", "code N\n.", "enter N 0 4 0", "enter 2 N 4 0", "enter 2 0 N 0", "enter 2 0 4 N",
			"equip N 0 2 11 0 0 0", "equip 9 N 2 11 0 0 0", "equip 9 0 N 11 0 0 0", "equip 9 0 2 N 0 0 0", "equip 9 0 2 11 N 0 0", "equip 9 0 2 11 0 N 0", "equip 9 0 2 11 0 0 N", "start N",
		} {
			wrong(t, "", strings.Replace(line, "N", n, 1), api.ErrWord)
		}
	}
	for line, want := range map[string]api.Errno{
		"world - 1 0": api.ErrRange, "world 1 - 0": api.ErrRange, "world 1 1 -": api.ErrRange, "world 99999 1 0": api.ErrRange, "world 10 1 99999": api.ErrRange,
	} {
		wrongAt(t, line, want, 0)
	}
	does(t, "", "put 6 15 65535", func(w *api.World) { w.Ram[16*page+15] = 65535 })
	wrong(t, "", "put 6 15 99999", api.ErrWord)
	wrong(t, "", "put 99999 15 1", api.ErrRange)
}

// L1: of each order as many numbers as it has; that they are numbers is asked ahead.
func TestHowMany(t *testing.T) {
	for name, many := range map[string]int{"clay": 3, "copy": 4, "put": 3, "enter": 4, "equip": 7, "start": 1, "code": 1} {
		for n := range 10 {
			if n == many {
				continue
			}
			line := name + strings.Repeat(" 1", n)
			wrong(t, "", line, api.ErrShort)
			wrong(t, "", line+" x", api.ErrWord)
			wrong(t, "", line+" ", api.ErrWord)
		}
	}
	for n := range 3 {
		line := "world" + strings.Repeat(" 1", n)
		wrongAt(t, line, api.ErrShort, 0)
		wrongAt(t, line+" x", api.ErrWord, 0)
		wrongAt(t, line+" ", api.ErrWord, 0)
	}
}

// L1: any other first word.
func TestNames(t *testing.T) {
	for _, name := range []string{"foo", ".", "end", "boot", "page", "halt", "clays", "cla", "Clay", "MAKE", "copy:", "move", "drop", "revoke", "stop", "-", "0", "starts", "worlds"} {
		wrong(t, "", name, api.ErrName)
		wrong(t, "", name+" 1 1 1", api.ErrName)
		wrong(t, "", name+" x", api.ErrName)
	}
}
