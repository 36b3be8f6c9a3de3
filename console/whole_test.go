package console_test

import (
	"fmt"
	"strconv"
	"strings"
	"testing"

	"keyhold/api"
	"keyhold/sample"
	"keyhold/word"
)

// few: so many frames have the worlds of which all slots are asked for, since a session is not long.
const few = 14

// guests are a session of some lines behind a world of a few frames.
func guests(d *guest) string {
	text := d.begin(few)
	for range 2 + d.N(20) {
		text += d.line() + "\n"
	}
	return text
}

// tail are the answers of the lines that come behind a text.
func tail(t *testing.T, text, behind string) []string {
	t.Helper()
	many := strings.Count(behind, "\n")
	l := answers(t, text+behind)
	if len(l) < many {
		t.Fatalf("%q: %q", text+behind, l)
	}
	return l[len(l)-many:]
}

// keys are what a session tells of all slots, behind a text; each number is that of one key.
func keys(t *testing.T, text string) []api.Slot {
	t.Helper()
	behind := ""
	for slot := range 16 * few {
		behind += fmt.Sprint("slot ", slot, "\n")
	}
	var all []api.Slot
	for _, line := range tail(t, text, behind) {
		parts := strings.Split(line, " ")
		n, err := strconv.ParseUint(parts[1], 16, 64)
		if err != nil {
			t.Fatal(err)
		}
		key, err := word.Unpack(n)
		if err != nil || parts[0] != strconv.Itoa(key.Kind) || parts[1] != strconv.FormatUint(n, 16) {
			t.Fatalf("%q: %v, %v", line, key, err)
		}
		from, err := strconv.Atoi(parts[2])
		if err != nil {
			t.Fatal(err)
		}
		all = append(all, api.Slot{Key: key, From: from})
	}
	return all
}

// numbers that a line tells.
func numbers(t *testing.T, line string) []int {
	t.Helper()
	var all []int
	for _, s := range strings.Fields(line) {
		n, err := strconv.Atoi(s)
		if err != nil {
			t.Fatal(err)
		}
		all = append(all, n)
	}
	return all
}

// isLesser: has a key no right that the one from which it was made has not? It opens the same, or what was made out of clay.
func isLesser(k, from api.Key) bool {
	if from.Kind == api.Clay {
		return k.Kind != api.Clay && from.Base <= k.Base && k.Base < from.Base+from.Mark
	}
	return k.Kind == from.Kind && k.Base == from.Base && k.Rights&^from.Rights == 0 && (k.Badge == from.Badge || from.Badge == 0)
}

// The whole, 1 and 3: keys have one number each, and no right more than those from which they were made; what no key opens is nothing.
func TestKeys(t *testing.T) {
	d := &guest{3}
	made, gone := 0, 0
	for range 250 {
		text := guests(d)
		if tail(t, text, "time\n")[0] == "error 6" {
			continue
		}
		opened := make([]int, few)
		all := keys(t, text)
		for slot, s := range all {
			if s.Key.Kind != api.None && s.Key.Kind != api.Clay {
				opened[s.Key.Base] = s.Key.Kind
			}
			if s.From >= 0 && !isLesser(s.Key, all[s.From].Key) {
				t.Fatalf("%q: slot %d: %v, made from %v", text, slot, s, all[s.From])
			}
			if s.From >= 0 && s.Key.Kind != api.None {
				made++
			}
		}
		frames := numbers(t, tail(t, text, "frames\n")[0])
		for frame, kind := range frames {
			if kind != opened[frame] {
				t.Fatalf("%q: frame %d is of kind %d, a key opens %d", text, frame, kind, opened[frame])
			}
			if frame < 10 && kind == api.None {
				gone++
			}
		}
	}
	if made < 800 || gone < 150 {
		t.Errorf("%d keys were made from others, %d frames are gone: these ask too little", made, gone)
	}
}

// The whole, 3: what is taken back is gone, with all that was made from it.
func TestTakenBack(t *testing.T) {
	d := &guest{33}
	back := 0
	for range 300 {
		text, slot := guests(d), []int{1, 9, 10, d.N(12)}[d.N(4)]
		ask := fmt.Sprint("under ", slot, "\n")
		under := tail(t, text, ask)[0]
		if under == "" || strings.HasPrefix(under, "error") {
			continue
		}
		text += fmt.Sprint("revoke ", slot, "\n")
		if l := tail(t, text, ask); l[0] != "" && l[0] != "error 6" {
			t.Fatalf("%q: under %d: %q", text, slot, l)
		}
		for _, s := range numbers(t, under) {
			if l := tail(t, text, fmt.Sprint("slot ", s, "\n")); l[0] != "0 0 -1" {
				t.Fatalf("%q: slot %d: %q", text, s, l)
			}
			back++
		}
	}
	if back < 500 {
		t.Errorf("%d keys are taken back: these ask too little", back)
	}
}

// The whole, 3: what is made out of clay begins with noughts, whatever stood there.
func TestNoughts(t *testing.T) {
	used := block("world 4 1 0", "clay 1 1 3", "make page 1 3 2", "put 1 0 7", "put 2 15 65535", "put 3 8 9")
	for kind := api.Page; kind <= api.Bell; kind++ {
		says(t, used+fmt.Sprint("revoke 1\nmake 1 ", kind, " 3 2\nram 1\nram 2\nram 3\n"), "ok", "ok", "ok", noughts, noughts, noughts)
	}
}

// The whole, 6: whatever tasks do, and ask for, parts are never joined.
func TestNeverJoined(t *testing.T) {
	d := &guest{6}
	fell, went := 0, 0
	for range 900 {
		text := guests(d)
		line := fmt.Sprint("call ", d.N(2), " ", d.N(18))
		if d.N(2) == 0 {
			line = d.run()
		}
		l := tail(t, text, "parts\n"+line+"\nparts\n")
		if l[1] != "ok" {
			continue
		}
		before, then := numbers(t, l[0]), numbers(t, l[2])
		for frame, least := range then {
			if before[frame] != before[least] {
				t.Fatalf("%q: %s: %v, ahead of that %v", text, line, then, before)
			}
		}
		if went++; l[0] != l[2] {
			fell++
		}
	}
	if went < 300 || fell < 5 {
		t.Errorf("%d times something is done, %d times parts fall apart: these ask too little", went, fell)
	}
}

// The whole, 4: who runs is of the turn's domain; in another one's turn it is on no core, once that has gone on.
func TestTurns(t *testing.T) {
	turns := strings.Replace(sample.Document, "equip 7 0 2 8 1 1 0", "equip 7 0 2 8 1 1 1", 1)
	turns = strings.Replace(turns, "sys 1\n", "", 1)
	text, want := "boot\n"+turns+"end\n", []string{"ok"}
	for time := range 24 {
		text += "run 0\ncores\n"
		want = append(want, "ok", map[bool]string{true: "6 -1", false: "-1 -1"}[time/4%2 == 0])
	}
	says(t, text, want...)
	text, want = "boot\n"+turns+"end\n", []string{"ok"}
	for time := range 24 {
		text += "run 1\ncores\n"
		want = append(want, "ok", map[bool]string{true: "-1 7", false: "-1 -1"}[time/4%2 == 1])
	}
	says(t, text, want...)
}
