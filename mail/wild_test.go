package mail_test

import (
	"fmt"
	"testing"

	"keyhold/api"
	"keyhold/mail"
	"keyhold/sample"
	"keyhold/sched"
	"keyhold/world"
)

// letter: what was sent, and is taken by nobody yet.
type letter struct {
	from, badge, word int
	call              bool
}

// book: what should be true of a world, told by what was done to it alone.
type book struct {
	w       api.World
	letters map[int][]letter // at each door
	open    map[int]int      // whom each task owes
	bits    map[int]int      // of each bell
	words   int              // so many words were sent: each is another one
	counts  map[string]int
}

// begin is the book of a calm world in which all tasks are started.
func begin(t *testing.T, d *sample.Die) *book {
	t.Helper()
	b := &book{w: calm(), letters: map[int][]letter{}, open: map[int]int{}, bits: map[int]int{}, counts: map[string]int{}}
	b.w.Doms = []int{0}
	for task := runs; task <= still; task++ {
		b.w.Tasks[task].Core, b.w.Tasks[task].Prio = d.N(2), d.N(4)
		b.must(t, func(w api.World) (api.World, error) { return sched.Start(w, task) })
	}
	return b
}

// must: a call makes another world, which is sound.
func (b *book) must(t *testing.T, do call) {
	t.Helper()
	next, err := do(b.w)
	if err != nil || world.Check(next) != nil {
		t.Fatalf("%v; then: %v", err, world.Check(next))
	}
	b.w = next
}

// has: a task should have this badge and this word, and may run.
func (b *book) has(t *testing.T, task, badge, word int) {
	t.Helper()
	r := b.w.Tasks[task]
	if r.Regs[1] != badge || r.Regs[2] != word || r.State != api.Ready {
		t.Fatalf("task %d has %d %d in state %d, want %d %d", task, r.Regs[1], r.Regs[2], r.State, badge, word)
	}
}

// first is who stands first in a line (-1: nobody).
func (b *book) first(at int) int {
	if len(b.w.Lines[at]) == 0 {
		return -1
	}
	return b.w.Lines[at][0]
}

// taken: a letter came to a task; if it was a call that one owes an answer now.
func (b *book) taken(t *testing.T, by int, l letter) {
	t.Helper()
	b.has(t, by, l.badge, l.word)
	b.counts["taken"]++
	if !l.call {
		return
	}
	if _, owes := b.open[by]; owes || b.w.Tasks[by].Owes != l.from || b.w.Tasks[l.from].State != api.Asking {
		t.Fatalf("task %d owes %d, whose state is %d", by, b.w.Tasks[by].Owes, b.w.Tasks[l.from].State)
	}
	b.open[by] = l.from
}

func (b *book) send(t *testing.T, task, at, badge int, ask bool) {
	t.Helper()
	b.words++
	b.counts["sent"]++
	to := b.first(at)
	l := letter{task, badge, b.words, ask}
	waits := to >= 0 && len(b.letters[at]) == 0
	b.must(t, sendsTo(task, at, badge, b.words, ask))
	if ask {
		b.counts["calls"]++
	}
	if waits {
		b.taken(t, to, l)
	} else {
		b.letters[at] = append(b.letters[at], l)
	}
}

func (b *book) take(t *testing.T, task, at int) {
	t.Helper()
	if _, owes := b.open[task]; owes {
		if wrong := sample.Refused(b.w, takes(task, at), api.ErrBusy, fmt.Sprint); wrong != "" {
			t.Fatal(wrong)
		}
		b.counts["owes"]++
		return
	}
	b.must(t, takes(task, at))
	if all := b.letters[at]; len(all) > 0 {
		b.letters[at] = all[1:]
		b.taken(t, task, all[0])
	}
}

func (b *book) answer(t *testing.T, task int) {
	t.Helper()
	to, owes := b.open[task]
	if !owes {
		if wrong := sample.Refused(b.w, answers(task, 1), api.ErrEmpty, fmt.Sprint); wrong != "" {
			t.Fatal(wrong)
		}
		b.counts["owes no one"]++
		return
	}
	b.words++
	b.must(t, answers(task, b.words))
	b.has(t, to, 0, b.words)
	delete(b.open, task)
	b.counts["answered"]++
}

func (b *book) ring(t *testing.T, at, badge int) {
	t.Helper()
	to := b.first(at)
	b.must(t, rings(at, badge))
	if to >= 0 {
		b.has(t, to, 0, badge)
		b.counts["heard"]++
	} else {
		b.bits[at] |= badge
	}
}

func (b *book) listen(t *testing.T, task, at int) {
	t.Helper()
	bits := b.bits[at]
	b.must(t, listensTo(task, at))
	if b.bits[at] = 0; bits != 0 {
		b.has(t, task, 0, bits)
		b.counts["heard later"]++
	}
}

// go1: someone who is on a core does something, or a bell is rung from nowhere.
func (b *book) go1(t *testing.T, d *sample.Die) {
	t.Helper()
	if d.N(8) == 0 {
		b.ring(t, bell+d.N(2), d.N(16))
		return
	}
	next, task, err := sched.Pick(b.w, d.N(2))
	if err != nil {
		t.Fatal(err)
	}
	if b.w = next; task < 0 {
		return
	}
	switch d.N(9) {
	case 0, 1:
		b.send(t, task, door+d.N(2), d.N(65536), false)
	case 2:
		b.send(t, task, door+d.N(2), d.N(65536), true)
	case 3, 4:
		b.take(t, task, door+d.N(2))
	case 5, 6:
		b.answer(t, task)
	case 7:
		b.ring(t, bell+d.N(2), 1+d.N(65535))
	default:
		b.listen(t, task, bell+d.N(2))
	}
}

// settled: all that was sent is taken, or is there to be taken; who called is answered, asks, or stands there; no ring is lost.
func (b *book) settled(t *testing.T) {
	t.Helper()
	left, calling := 0, 0
	for at, all := range b.letters {
		left += len(all)
		for n, l := range all {
			r := b.w.Tasks[l.from]
			if b.w.Lines[at][n] != l.from || r.Badge != l.badge || r.Word != l.word || (r.State == api.Calling) != l.call {
				t.Fatalf("door %d, letter %v: %v, line %v", at, l, r, b.w.Lines[at])
			}
			if l.call {
				calling++
			}
		}
	}
	if b.counts["sent"] != b.counts["taken"]+left || b.counts["calls"] != b.counts["answered"]+len(b.open)+calling {
		t.Fatalf("%v, %d are not taken, %d call, %d are owed", b.counts, left, calling, len(b.open))
	}
	if b.w.Bits[bell] != b.bits[bell] || b.w.Bits[rung] != b.bits[rung] {
		t.Fatalf("bits %d %d, want %v", b.w.Bits[bell], b.w.Bits[rung], b.bits)
	}
}

// The whole's second and fourth: no word and no ring is lost, each comes once, in the order in which it was sent; who calls is answered once; and all stays sound.
func TestNothingIsLost(t *testing.T) {
	d := sample.Die(23)
	all := map[string]int{}
	for range 80 {
		b := begin(t, &d)
		for range 60 {
			b.go1(t, &d)
			b.settled(t)
		}
		for what, n := range b.counts {
			all[what] += n
		}
	}
	for _, what := range []string{"sent", "taken", "calls", "answered", "owes", "owes no one", "heard", "heard later"} {
		if all[what] < 20 {
			t.Errorf("%s: %d times: these worlds ask too little", what, all[what])
		}
	}
}

// asked: numbers with which mail is asked for something.
type asked struct{ task, at, badge, word int }

// place is the error that J1 tells, word for word.
func (a asked) place(w api.World, kind int) api.Errno {
	isFrame := func(n int) bool { return n >= 0 && n < len(w.Kinds) }
	if !isFrame(a.task) || !isFrame(a.at) {
		return api.ErrRange
	}
	if w.Kinds[a.task] != api.Task || w.Kinds[a.at] != kind {
		return api.ErrKind
	}
	for _, t := range w.Cores {
		if t == a.task {
			return api.OK
		}
	}
	return api.ErrBusy
}

// outcomes are the calls with such numbers, and the errors that the chapter tells of them.
func (a asked) outcomes(w api.World) map[string]struct {
	do   call
	want api.Errno
} {
	isWord := func(n int) bool { return n >= 0 && n <= 65535 }
	either := func(first api.Errno, ok bool, second api.Errno) api.Errno {
		if first == api.OK && !ok {
			return second
		}
		return first
	}
	atDoor := a.place(w, api.Door)
	owes := func() bool { return w.Tasks[a.task].Owes >= 0 }
	words := either(atDoor, isWord(a.badge) && isWord(a.word), api.ErrWord)
	own := asked{a.task, a.task, 0, 0}.place(w, api.Task)
	answer := either(own, isWord(a.word), api.ErrWord)
	bellAlone := api.OK
	if a.at < 0 || a.at >= len(w.Kinds) {
		bellAlone = api.ErrRange
	} else if w.Kinds[a.at] != api.Bell {
		bellAlone = api.ErrKind
	}
	return map[string]struct {
		do   call
		want api.Errno
	}{
		"Send":   {sendsTo(a.task, a.at, a.badge, a.word, false), words},
		"Call":   {sendsTo(a.task, a.at, a.badge, a.word, true), words},
		"Take":   {takes(a.task, a.at), either(atDoor, atDoor == api.OK && !owes(), api.ErrBusy)},
		"Answer": {answers(a.task, a.word), either(answer, answer == api.OK && owes(), api.ErrEmpty)},
		"Ring":   {rings(a.at, a.badge), either(bellAlone, isWord(a.badge), api.ErrWord)},
		"Listen": {listensTo(a.task, a.at), a.place(w, api.Bell)},
	}
}

// At whatever numbers: the errors are those of the chapter; what is refused changes nothing, what comes is sound.
func TestWild(t *testing.T) {
	d := sample.Die(24)
	count := map[api.Errno]int{}
	for range 20 {
		b := begin(t, &d)
		for range 20 {
			b.go1(t, &d)
			a := asked{
				[]int{d.N(26) - 1, runs + d.N(8), max(runs, b.w.Cores[0]), max(runs, b.w.Cores[1])}[d.N(4)],
				[]int{d.N(26) - 1, door + d.N(4), door + d.N(4), door + d.N(4)}[d.N(4)],
				[]int{d.N(65536), 0, 65535, -1}[d.N(4)],
				[]int{d.N(65536), 0, 65535, 65536}[d.N(4)],
			}
			for name, c := range a.outcomes(b.w) {
				count[c.want]++
				if c.want != api.OK {
					if wrong := sample.Refused(b.w, c.do, c.want, fmt.Sprint); wrong != "" {
						t.Fatalf("%s %v: %s", name, a, wrong)
					}
					continue
				}
				got, err := c.do(b.w)
				if err != nil || world.Check(got) != nil {
					t.Fatalf("%s %v: %v; then: %v", name, a, err, world.Check(got))
				}
			}
		}
	}
	for _, e := range []api.Errno{api.OK, api.ErrRange, api.ErrKind, api.ErrBusy, api.ErrWord, api.ErrEmpty} {
		if count[e] < 20 {
			t.Errorf("error %d was told %d times: these numbers ask too little", e, count[e])
		}
	}
}

// The document's world, behind three steps of core 0: the task there sends 7 by badge 0 through the door, and nobody is there.
func TestDocument(t *testing.T) {
	w := sample.Hollow(24, 2, 0, 1)
	w.Kinds[0], w.Slots[0] = api.Node, sample.Key(api.Node, 0, 7, 0, -1)
	for slot, kind := range map[int]int{6: api.Task, 7: api.Task, 8: api.Door} {
		w.Kinds[slot], w.Slots[slot] = kind, sample.Key(kind, slot, 7, 0, -1)
	}
	for core, task := range []int{6, 7} {
		w.Tasks[task].Core, w.Tasks[task].Prio = core, 1
		next, err := sched.Start(w, task)
		if err != nil {
			t.Fatal(err)
		}
		w = next
	}
	w, who, err := sched.Pick(w, 0)
	if err != nil || who != 6 {
		t.Fatalf("Pick(0): %d, %v", who, err)
	}
	w, err = mail.Send(w, 6, 8, 0, 7, false)
	if r := w.Tasks[6]; err != nil || r.State != 2 || r.At != 8 || r.Word != 7 || fmt.Sprint(w.Cores, w.Ready[1], w.Ready[5]) != "[-1 -1] [] [7]" {
		t.Errorf("behind it: %v, %v; cores %v, Ready %v", r, err, w.Cores, w.Ready)
	}
}
