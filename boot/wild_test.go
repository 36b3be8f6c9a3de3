package boot_test

import (
	"fmt"
	"strconv"
	"strings"
	"testing"

	"keyhold/api"
	"keyhold/boot"
	"keyhold/clay"
	"keyhold/isa"
	"keyhold/sample"
	"keyhold/sched"
	"keyhold/tree"
	"keyhold/world"
)

// teller tells the chapter once more, row by row.
type teller struct {
	w     api.World
	lines []string
	at    int // the line that is done
}

// told is what Read should answer.
func told(text string) (api.World, error) {
	if len(text) > 4000 {
		return api.World{}, api.ErrRange
	}
	r := &teller{}
	if text != "" {
		r.lines = strings.Split(strings.TrimSuffix(text, "\n"), "\n")
	}
	for ; r.at < len(r.lines); r.at++ {
		at := r.at
		if e := r.line(strings.Split(r.lines[at], " ")); e != api.OK {
			return api.World{}, &api.Fault{At: at, Err: e}
		}
	}
	if r.w.Kinds == nil {
		return api.World{}, api.ErrShort
	}
	return r.w, nil
}

func (r *teller) line(words []string) api.Errno {
	if r.w.Kinds == nil && words[0] != "world" {
		return api.ErrShort
	}
	n, all := toNumbers(words[1:])
	many := map[string]int{"clay": 3, "copy": 4, "put": 3, "enter": 4, "equip": 7, "start": 1, "code": 1}
	switch words[0] {
	case "world":
		return r.world(n, all)
	case "make":
		return r.make(words[1:])
	case "clay", "copy", "put", "enter", "equip", "start", "code":
		if !all {
			return api.ErrWord
		}
		if len(n) != many[words[0]] {
			return api.ErrShort
		}
		return r.do(words[0], n)
	}
	return api.ErrName
}

func (r *teller) do(name string, n []int) api.Errno {
	switch name {
	case "clay":
		return r.clay(n[0], n[1], n[2])
	case "copy":
		return r.take(tree.Copy(r.w, n[0], n[1], n[2], n[3]))
	case "put":
		return r.put(n[0], n[1], n[2])
	case "enter":
		return r.enter(n[0], n[1], n[2], n[3])
	case "equip":
		return r.equip(n)
	case "start":
		return r.take(sched.Start(r.w, n[0]))
	}
	return r.code(n[0])
}

func toNumbers(words []string) (l []int, all bool) {
	for _, s := range words {
		n, err := strconv.ParseUint(s, 10, 32)
		switch {
		case s == "-":
			l = append(l, -1)
		case err == nil && len(s) <= 5 && strconv.Itoa(int(n)) == s:
			l = append(l, int(n))
		default:
			return nil, false
		}
	}
	return l, true
}

func (r *teller) take(w api.World, err error) api.Errno {
	if err == nil {
		r.w = w
	}
	e, _ := api.Tell(err)
	return e
}

func (r *teller) world(n []int, all bool) api.Errno {
	if r.w.Kinds != nil {
		return api.ErrTwice
	}
	if !all {
		return api.ErrWord
	}
	if len(n) < 3 {
		return api.ErrShort
	}
	if e := r.take(world.New(n[0], n[1], n[2:])); e != api.OK {
		return e
	}
	r.w.Kinds[0], r.w.Slots[0] = api.Node, sample.Key(api.Node, 0, 7, 0, -1)
	return api.OK
}

func (r *teller) make(words []string) api.Errno {
	if len(words) != 4 {
		return api.ErrShort
	}
	for i, name := range strings.Fields("page table space node task door bell") {
		if words[0] == name {
			n, all := toNumbers(words[1:])
			if !all {
				return api.ErrWord
			}
			return r.take(clay.Make(r.w, n[0], 2+i, n[1], n[2]))
		}
	}
	return api.ErrName
}

func (r *teller) clay(slot, base, length int) api.Errno {
	if slot < 0 || slot >= len(r.w.Slots) || base < 0 || length < 1 || base+length > len(r.w.Kinds) {
		return api.ErrRange
	}
	if r.w.Kinds[slot/16] != api.Node {
		return api.ErrKind
	}
	if r.w.Slots[slot].Key.Kind != 0 {
		return api.ErrTwice
	}
	busy := map[int]int{}
	for f, kind := range r.w.Kinds {
		busy[f] += kind
	}
	for _, s := range r.w.Slots {
		for i := 0; s.Key.Kind == api.Clay && i < s.Key.Len; i++ {
			busy[s.Key.Base+i]++
		}
	}
	for i := range length {
		if busy[base+i] > 0 {
			return api.ErrBusy
		}
	}
	r.w.Slots[slot] = sample.Clay(base, length, 0)
	return api.OK
}

// thing: ErrRange, ErrKind, unless it is a frame, and of this kind.
func (r *teller) thing(frame, kind int) api.Errno {
	if frame < 0 || frame >= len(r.w.Kinds) {
		return api.ErrRange
	}
	if r.w.Kinds[frame] != kind {
		return api.ErrKind
	}
	return api.OK
}

func (r *teller) put(frame, at, v int) api.Errno {
	if e := r.thing(frame, api.Page); e != api.OK {
		return e
	}
	if at < 0 || at > 15 {
		return api.ErrRange
	}
	if v < 0 || v > 65535 {
		return api.ErrWord
	}
	r.w.Ram[16*frame+at] = v
	return api.OK
}

func (r *teller) code(frame int) api.Errno {
	text, end := "", r.at+1
	for ; end < len(r.lines) && r.lines[end] != "."; end++ {
		text += r.lines[end] + "\n"
	}
	if end == len(r.lines) {
		return api.ErrShort
	}
	r.at = end
	l, err := isa.Parse(text)
	if err != nil {
		e, _ := api.Tell(err)
		return e
	}
	for i, ins := range l {
		if frame < 0 || r.thing(frame+i/8, api.Page) != api.OK {
			return api.ErrKind
		}
		two, _ := isa.Encode(ins)
		r.w.Ram[16*frame+2*i], r.w.Ram[16*frame+2*i+1] = two[0], two[1]
	}
	return api.OK
}

func (r *teller) enter(space, page, frame, write int) api.Errno {
	if e := r.thing(space, api.Space); e != api.OK {
		return e
	}
	if page < 0 || page > 255 || write < 0 || write > 1 || r.thing(frame, 0) == api.ErrRange {
		return api.ErrRange
	}
	upper := &r.w.Ram[16*space+page/16]
	if r.w.Kinds[frame] == api.Table {
		if *upper != 0 {
			return api.ErrTwice
		}
		*upper = 0x8000 + frame
		return api.OK
	}
	if r.w.Kinds[frame] != api.Page {
		return api.ErrKind
	}
	if *upper == 0 {
		return api.ErrMap
	}
	lower := &r.w.Ram[16*(*upper-0x8000)+page%16]
	if *lower != 0 {
		return api.ErrTwice
	}
	*lower = 0x8000 + 0x4000*write + frame
	return api.OK
}

func (r *teller) equip(n []int) api.Errno {
	for i, kind := range []int{api.Task, api.Node, api.Space, api.Door} {
		if e := r.thing(n[i], kind); e != api.OK && (i == 0 || n[i] != -1) {
			return e
		}
	}
	if n[4] < 0 || n[4] >= len(r.w.Cores) || n[5] < 0 || n[5] > 3 || n[6] < 0 || n[6] > 3 {
		return api.ErrRange
	}
	task := &r.w.Tasks[n[0]]
	if task.State != api.Still {
		return api.ErrBusy
	}
	task.Node, task.Space, task.Helper, task.Core, task.Prio, task.Dom = n[1], n[2], n[3], n[4], n[5], n[6]
	return api.OK
}

// writer writes texts by a die; most lines have numbers that often fit.
type writer struct {
	sample.Die
}

func (d *writer) of(all string) string {
	l := strings.Split(all, " ")
	return l[d.N(len(l))]
}

// near: most often one of these numbers, which fit; else one around them, or far.
func (d *writer) near(fits ...int) int {
	switch d.N(12) {
	case 0:
		return d.N(17) - 1
	case 1:
		return []int{-1, 15, 16, 24, 255, 256, 384, 65535, 65536, 99999}[d.N(10)]
	}
	return fits[d.N(len(fits))]
}

// full, free: a slot with something, or one for something, for all the writer knows.
func (d *writer) full() int { return d.near(d.N(11), d.N(11), d.N(32)) }

func (d *writer) free() int { return d.near(11+d.N(5), 16+d.N(16)) }

func (d *writer) kind() string { return d.of("page table space node task door bell") }

func (d *writer) code() string {
	text := fmt.Sprintln("code", d.near(4, 5))
	for range d.N(14) {
		text += []string{"set r1 5\n", "halt\n", "sys 7\n", "jump -1\n", "halt\n", "load r1 r2 -1\n", "sub r1 r2\n", "set r7 32767\n"}[d.N(8)]
	}
	text += []string{"", "", "", "a:\nzero r1 a\n", "foo\n", "jump a\n", "\n", "a:\n"}[d.N(8)]
	if d.N(12) > 0 {
		text += ".\n"
	}
	return text
}

func (d *writer) line() string {
	switch d.N(10) {
	case 0:
		return fmt.Sprintln("clay", d.free(), d.near(15+d.N(8)), d.near(1+d.N(4)))
	case 1, 2:
		return fmt.Sprintln("make", d.kind(), d.near(1), d.near(1), d.free())
	case 3, 4:
		return fmt.Sprintln("copy", d.full(), d.free(), d.near(d.N(8)), d.near(0, 0, 0, 7))
	case 5:
		return fmt.Sprintln("put", d.near(4, 5), d.near(d.N(16)), d.near(d.N(65536)))
	case 6:
		return d.code()
	case 7, 8:
		return fmt.Sprintln("enter", d.near(2), d.near(d.N(20), d.N(256)), d.near(3, 4, 5), d.near(0, 1))
	}
	if d.N(4) == 0 {
		return fmt.Sprintln("start", d.near(6, 7))
	}
	return fmt.Sprintln("equip", d.near(6, 7), d.near(0, 1, -1), d.near(2, -1), d.near(8, -1), d.near(0, 1), d.near(d.N(4)), d.near(d.N(4)))
}

// begin: a world, clay, some things: frame 1 is a node, 2 a space, 3 a table, 4 and 5 pages, 6 and 7 tasks, 8 a door.
func (d *writer) begin() string {
	text := fmt.Sprintln("world", 16+d.N(9), 2+d.N(3), d.N(4), d.N(4)) + fmt.Sprintln("clay 1 1", 9+d.N(6))
	for i, kind := range strings.Fields("node space table page page task task door") {
		text += fmt.Sprintln("make", kind, "1 1", 2+i)
	}
	return text
}

// spoil: a letter is another one, or several.
func (d *writer) spoil(text string) string {
	at := d.N(len(text))
	return text[:at] + d.of("- 0 1 9 x . \n \x00 \u00e9  world clay 99999") + text[at+d.N(2):]
}

// same: is what is read what is told?
func same(text string) string {
	got, err := boot.Read(text)
	want, wanted := told(text)
	if fmt.Sprintf("%T %v", err, err) != fmt.Sprintf("%T %v", wanted, wanted) {
		return fmt.Sprintf("%v, want %v", err, wanted)
	}
	if !sample.Same(got, want) {
		return sample.Differences(got, want, fmt.Sprint)
	}
	if again, _ := boot.Read(text); !sample.Same(got, again) {
		return "read again, it is another world"
	}
	if err != nil {
		return ""
	}
	return isWell(got)
}

// Many texts, which grow line by line: the world or the error is the one that the chapter tells; the world is sound.
func TestWild(t *testing.T) {
	d := &writer{12}
	ends := map[api.Errno]int{}
	read := func(text string) bool {
		if wrong := same(text); wrong != "" {
			t.Fatalf("%q: %s", text, wrong)
		}
		_, err := boot.Read(text)
		e, _ := api.Tell(err)
		ends[e]++
		return err == nil
	}
	for range 100 {
		text := d.begin()
		for range 25 {
			line := strings.ReplaceAll(d.line(), " -1", " -")
			if read(text + line) {
				text += line
			}
		}
		for range 5 {
			read(d.spoil(text))
		}
	}
	for e := api.OK; e <= api.ErrCall; e++ {
		if e != api.ErrState && ends[e] < 10 {
			t.Errorf("error %d: %d times", e, ends[e])
		}
	}
	if ends[api.OK] < 800 || ends[api.ErrState] > 0 {
		t.Errorf("no errors: %d times, ErrState: %d times", ends[api.OK], ends[api.ErrState])
	}
}

// Texts without any form are refused, and nothing panics.
func TestNoise(t *testing.T) {
	d := sample.Die(3)
	for range 2000 {
		words := strings.Split("world|clay|make|copy|put|code|enter|equip|start|page|task|.|\n|\n|\n| | | |-|0|1|2|24|99999|100000|r1|halt|\xff|\u0661|\x00", "|")
		text := map[int]string{0: "", 1: base, 2: "world 24 4 0\n"}[d.N(3)]
		for range d.N(30) {
			if text += words[d.N(len(words))]; d.N(2) == 0 {
				text += " "
			}
		}
		if wrong := same(text); wrong != "" {
			t.Fatalf("%q: %s", text, wrong)
		}
	}
}
