package console_test

import (
	"fmt"
	"regexp"
	"strconv"
	"strings"
	"testing"

	"keyhold/api"
	"keyhold/boot"
	"keyhold/clay"
	"keyhold/console"
	"keyhold/kernel"
	"keyhold/parts"
	"keyhold/sample"
	"keyhold/tree"
	"keyhold/word"
	"keyhold/world"
)

// teller tells the chapter once more: letter by letter it finds lines, by patterns what they say.
type teller struct {
	w    *api.World // nil: there is none
	out  []string
	text []string // of a world, if it has begun
	in   bool
}

// told is what a session should answer, and the world behind it.
func told(text string) (string, *api.World) {
	if len(text) > 4000 {
		return "too long\n", nil
	}
	r, line := &teller{}, ""
	for _, b := range []byte(text) {
		if b == '\n' {
			r.hear(line)
			line = ""
		} else {
			line += string([]byte{b})
		}
	}
	if text != "" && text[len(text)-1] != '\n' {
		r.hear(line)
	}
	if len(r.out) == 0 {
		return "", r.w
	}
	return strings.Join(r.out, "\n") + "\n", r.w
}

func (r *teller) hear(line string) {
	switch {
	case r.in && line == "end":
		w, err := boot.Read(strings.Join(r.text, "\n"))
		r.out = append(r.out, r.takes(w, err))
		r.in, r.text = false, nil
	case r.in:
		r.text = append(r.text, line)
	case line == "boot":
		r.in = true
	default:
		r.out = append(r.out, r.answer(line))
	}
}

// form is what a line has to look like, but for its numbers; whatever stands there.
var form = regexp.MustCompile(`^(time|frames|cores|parts|(slot|ram|task|step|drop|revoke|under)( [^ ]*)|run( [^ ]*){1,40}|(call|move)( [^ ]*){2}|(copy|make)( [^ ]*){4})$`)

var isNumber = regexp.MustCompile(`^(0|[1-9][0-9]{0,4})$`)

func (r *teller) answer(line string) string {
	if !form.MatchString(line) {
		return "bad"
	}
	if r.w == nil {
		return "error 6"
	}
	words := strings.Split(line, " ")
	n := make([]int, len(words)+3)
	for i, s := range words[1:] {
		if !isNumber.MatchString(s) {
			return "error 1"
		}
		n[i], _ = strconv.Atoi(s)
	}
	if text, is := r.asked(words[0], n[0]); is {
		return text
	}
	return r.done(words[0], n, len(words)-1)
}

// asked is the answer of a line that only asks.
func (r *teller) asked(name string, n int) (string, bool) {
	isFrame := n < len(r.w.Kinds)
	switch name {
	case "time":
		return strconv.Itoa(r.w.Time), true
	case "frames":
		return list(r.w.Kinds, nil), true
	case "cores":
		return list(r.w.Cores, nil), true
	case "parts":
		return list(parts.Of(*r.w)), true
	case "under":
		return list(tree.Under(*r.w, n)), true
	case "slot", "ram", "task":
		if name == "slot" && n >= 16*len(r.w.Kinds) || name != "slot" && !isFrame {
			return "error 2", true
		}
	}
	switch name {
	case "slot":
		packed, _ := word.Pack(r.w.Slots[n].Key)
		return fmt.Sprintf("%d %x %d", r.w.Slots[n].Key.Kind, packed, r.w.Slots[n].From), true
	case "ram":
		return strings.Trim(fmt.Sprintf("%04x", r.w.Ram[16*n:16*n+16]), "[]"), true
	case "task":
		if r.w.Kinds[n] != api.Task {
			return "error 3", true
		}
		one := r.w.Tasks[n]
		return fmt.Sprint(one.State, one.Prio, one.Pc, " ", list(one.Regs[:], nil)), true
	}
	return "", false
}

// done is the answer of a line that does something, with so many numbers.
func (r *teller) done(name string, n []int, many int) string {
	w := *r.w
	switch name {
	case "step":
		return r.takes(kernel.Step(w, n[0]))
	case "run":
		return r.takes(kernel.Run(w, n[:many]))
	case "call":
		return r.takes(kernel.Call(w, n[0], n[1]))
	case "copy":
		return r.takes(tree.Copy(w, n[0], n[1], n[2], n[3]))
	case "move":
		return r.takes(tree.Move(w, n[0], n[1]))
	case "drop":
		return r.takes(tree.Drop(w, n[0]))
	case "revoke":
		return r.takes(tree.Revoke(w, n[0]))
	}
	return r.takes(clay.Make(w, n[0], n[1], n[2], n[3]))
}

func (r *teller) takes(w api.World, err error) string {
	if err != nil {
		return refusal(err)
	}
	r.w = &w
	return "ok"
}

func list(l []int, err error) string {
	if err != nil {
		return refusal(err)
	}
	return strings.Trim(fmt.Sprint(l), "[]")
}

func refusal(err error) string {
	if f, ok := err.(*api.Fault); ok {
		return fmt.Sprintf("error %d at %d", f.Err, f.At)
	}
	return fmt.Sprintf("error %d", err)
}

// guest writes lines by a die; their numbers often fit.
type guest struct {
	sample.Die
}

// near: most often one of these numbers, which fit; else one around them, or far.
func (d *guest) near(fits ...int) int {
	switch d.N(14) {
	case 0:
		return d.N(32)
	case 1:
		return []int{2, 15, 16, 24, 255, 256, 384, 65535, 65536, 99999}[d.N(10)]
	}
	return fits[d.N(len(fits))]
}

// full, free: a slot with something, or one for something, for all the guest knows.
func (d *guest) full() int { return d.near(d.N(13), d.N(13), d.N(32)) }

func (d *guest) free() int { return d.near(11+d.N(5), 16+d.N(16)) }

func (d *guest) line() string {
	switch d.N(17) {
	case 0:
		return []string{"time", "frames", "cores", "parts"}[d.N(4)]
	case 1:
		return fmt.Sprint("slot ", d.full())
	case 2:
		return fmt.Sprint("ram ", d.near(d.N(9)))
	case 3, 4:
		return fmt.Sprint("task ", d.near(6, 7))
	case 5, 6:
		return fmt.Sprint("step ", d.near(0, 1))
	case 7, 8:
		return d.run()
	case 9, 10:
		return fmt.Sprint("call ", d.near(0, 1), " ", d.near(d.N(18)))
	case 11:
		return fmt.Sprint("copy ", d.full(), " ", d.free(), " ", d.near(d.N(8)), " ", d.near(0, 0, 9))
	case 12:
		return fmt.Sprint("move ", d.full(), " ", d.free())
	case 13:
		return fmt.Sprint("drop ", d.full())
	case 14:
		return fmt.Sprint("revoke ", d.near(9, 10, 11, d.N(13)))
	case 15:
		return fmt.Sprint("make ", d.near(1), " ", d.near(2+d.N(7)), " ", d.near(1, 1, 2), " ", d.free())
	}
	return fmt.Sprint("under ", d.full())
}

func (d *guest) run() string {
	line := "run"
	for range []int{1, 2, 5, 1 + d.N(20), 39 + d.N(3)}[d.N(5)] {
		line += fmt.Sprint(" ", []int{0, 0, 0, 1, 1, d.N(2), d.near(0)}[d.N(7)])
	}
	return line
}

// begin is the text of a world of so many frames (at least 14) with the document's things, and a bell, whose tasks set registers and ask for something.
func (d *guest) begin(frames int) string {
	text := fmt.Sprint("boot\nworld ", frames, " 2 0 ", d.N(2), "\nclay 1 1 ", 10+d.N(4), "\n")
	for i, kind := range strings.Fields("node space table page page task task door bell") {
		text += fmt.Sprint("make ", kind, " 1 1 ", 2+i, "\n")
	}
	text += "copy 9 11 7 5\nenter 2 0 3 0\nenter 2 0 4 0\nenter 2 1 5 1\ncode 4\n"
	for range 7 {
		text += []string{
			fmt.Sprint("set r", 1+d.N(5), " ", d.N(17)), fmt.Sprint("set r1 ", []int{7, 8, 9, 10, 11}[d.N(5)]), fmt.Sprint("sys ", d.N(18)), fmt.Sprint("sys ", d.N(7)),
			fmt.Sprint("add r", d.N(8), " r", d.N(8)), fmt.Sprint("store r1 r7 ", 16+d.N(18)),
		}[d.N(6)] + "\n"
	}
	text += fmt.Sprint("jump 0\n.\nequip 6 0 2 ", []string{"-", "8"}[d.N(2)], " 0 ", d.N(4), " 0\nequip 7 0 2 8 1 ", d.N(4), " ", d.N(2), "\nstart 6\n")
	return text + map[int]string{0: "", 1: "start 8\n"}[d.N(20)] + "start 7\nend\n"
}

// spoil: a letter is another one, or several.
func (d *guest) spoil(text string) string {
	at := d.N(len(text))
	return text[:at] + []string{"", " ", "\n", "0", "x", "9", "-", "\x00", "\u00e9", "\nboot\n", "\nend\n", " 1"}[d.N(12)] + text[at+d.N(2):]
}

// asTold: is a session what the chapter tells? What is left of its world is sound.
func asTold(t *testing.T, text string) string {
	t.Helper()
	want, w := told(text)
	got := console.Session(text)
	if got != want {
		t.Fatalf("%q: %q, want %q", text, got, want)
	}
	if w != nil {
		if err := world.Check(*w); err != nil {
			t.Fatalf("%q: the world is no longer sound: %v", text, err)
		}
	}
	return got
}

// class: all answers that tell something are alike, as are all places of errors.
func class(answer string) string {
	if strings.HasPrefix(answer, "error") || answer == "ok" || answer == "bad" || answer == "too long" {
		what, _, isAt := strings.Cut(answer, " at ")
		return what + map[bool]string{true: " at"}[isAt]
	}
	return "what is told"
}

// Q1: many sessions answer what the chapter tells; no world comes to be unsound in them, so ErrState is never told.
func TestWild(t *testing.T) {
	d := &guest{16}
	ends := map[string]int{}
	for range 400 {
		text := d.begin(14 + d.N(11))
		for range d.N(60) {
			if d.N(25) == 0 {
				text += d.begin(14 + d.N(11))
			}
			text += d.line() + "\n"
		}
		if d.N(3) == 0 {
			text = d.spoil(text)
		}
		for _, answer := range strings.Split(asTold(t, text), "\n") {
			ends[class(answer)]++
		}
	}
	for _, what := range strings.Fields("1 2 3 4 5 6 12") {
		if ends["error "+what] < 5 {
			t.Errorf("error %s: %d times", what, ends["error "+what])
		}
	}
	if ends["ok"] < 2000 || ends["bad"] < 20 || ends["what is told"] < 2000 || ends["error 2 at"] < 20 || ends["error 3 at"] < 20 || ends["error 8"] > 0 {
		t.Errorf("so many times these answers: %v: these ask too little", ends)
	}
}

// Texts without any form are answered, too, and nothing panics.
func TestNoise(t *testing.T) {
	d := sample.Die(5)
	words := strings.Split("time|frames|cores|slot|ram|task|step|run|call|copy|move|drop|revoke|make|under|parts|boot|end|world|world 24 2 0|\n|\n|\n|\n|\n|\n| | | |-|0|1|2|24|99999|100000|.|\xff|\u0661|\x00", "|")
	for range 3000 {
		text := []string{"", booted, "boot\nworld 24 4 0\nend\n"}[d.N(3)]
		for range d.N(60) {
			if text += words[d.N(len(words))]; d.N(2) == 0 {
				text += " "
			}
		}
		asTold(t, text)
	}
}

// A line's answer hangs on nothing behind it.
func TestLineByLine(t *testing.T) {
	d := &guest{17}
	for range 40 {
		text := d.begin(14 + d.N(11))
		all := console.Session(text)
		for range 20 {
			text += d.line() + "\n"
			next := console.Session(text)
			if !strings.HasPrefix(next, all) || strings.Count(next, "\n") != strings.Count(all, "\n")+1 {
				t.Fatalf("%q: %q, and without its last line %q", text, next, all)
			}
			all = next
		}
	}
}
