package parts_test

import (
	"fmt"
	"math"
	"slices"
	"testing"

	"keyhold/api"
	"keyhold/parts"
	"keyhold/sample"
	"keyhold/world"
)

// busy is a world of three isles with tasks in all places, and words of its own in each frame.
func busy() api.World {
	w := isles()
	for n := range w.Ram {
		if k := w.Kinds[n/16]; k != api.Space && k != api.Table {
			w.Ram[n] = n
		}
	}
	for frame, kind := range w.Kinds {
		if kind == api.Task {
			w.Tasks[frame].Pc = 100 * frame
		}
	}
	w.Time = 5
	w.Ram[16*space], w.Ram[16*table] = 0x8000+table, 0xc000+page
	w.Tlbs[0] = []api.Entry{{Space: space, Page: 0, Frame: page, Write: true}}
	sample.Run(&w, task, 1, 3)
	sample.Run(&w, north+task, 0, 3)
	sample.Queue(&w, south+task, 1, 2, 3)
	sample.Queue(&w, north+mate, 1, 2, 0)
	sample.Queue(&w, south+mate, 1, 2, 0)
	sample.Stand(&w, mate, door, api.Calling)
	w.Bits[bell], w.Bits[south+bell] = 6, 7
	return w
}

// seen is what frames from one on, up to another one, see: Turns is nobody, Runs is nobody.
func seen(w api.World, from, to int) parts.View {
	return parts.View{
		Ram: w.Ram[16*from : 16*to], Slots: w.Slots[16*from : 16*to], Tasks: w.Tasks[from:to], Kinds: w.Kinds[from:to],
		Lines: w.Lines[from:to], Bits: w.Bits[from:to], Turns: make([][]int, 4*len(w.Cores)), Runs: slices.Repeat([]int{-1}, len(w.Cores)),
	}
}

// freshen: what does a view share with other ones? All of it is written into, to see that.
func freshen(v parts.View) bool {
	numbers := append(append([][]int{v.Ram, v.Kinds, v.Bits, v.Runs}, v.Lines...), v.Turns...)
	for n, l := range numbers {
		for i := range l {
			l[i] = 1000 + n
		}
	}
	for n := range v.Slots {
		v.Slots[n].From = 1000
	}
	for n := range v.Tasks {
		v.Tasks[n].Pc = 1000
	}
	for n, l := range numbers {
		for _, number := range l {
			if number != 1000+n {
				return false
			}
		}
	}
	lines := slices.Clone(v.Lines)
	clear(v.Turns)
	if fmt.Sprint(v.Lines) != fmt.Sprint(lines) {
		return false
	}
	clear(v.Lines)
	return true
}

// sees: does a part of a world see this? The world is not written into, and what is seen is fresh.
func sees(t *testing.T, why string, begin api.World, part int, want parts.View) {
	t.Helper()
	if err := world.Check(begin); err != nil {
		t.Fatalf("%s: this world to begin with is not sound: %v", why, err)
	}
	wanted := fmt.Sprint(want)
	w, whole := sample.Roomy(begin)
	before := fmt.Sprint(whole)
	got, err := parts.See(w, part)
	if err != nil || fmt.Sprint(got) != wanted {
		t.Errorf("%s: part %d sees %v, %v, want %v", why, part, got, err, wanted)
	}
	if !freshen(got) {
		t.Errorf("%s: two lists of what part %d sees share memory", why, part)
	}
	if fmt.Sprint(whole) != before {
		t.Errorf("%s: what was handed in is written into", why)
	}
	if again, _ := parts.See(w, part); fmt.Sprint(again) != wanted {
		t.Errorf("%s: what was answered is kept", why)
	}
}

// N2: a part sees all of its frames, who of it is next, and who of it runs.
func TestSee(t *testing.T) {
	w := busy()
	v := seen(w, 0, north)
	v.Runs[1] = task
	sees(t, "the first", w, 0, v)
	v = seen(w, north, south)
	v.Runs[0] = north + task
	v.Turns[6] = []int{north + mate}
	sees(t, "the second", w, north, v)
	v = seen(w, south, 24)
	v.Turns[6] = []int{south + task, south + mate}
	sees(t, "the last", w, south, v)
}

// N2: a part whose frames lie apart sees them rising; where all is of one part it sees all of it.
func TestSeeApart(t *testing.T) {
	w := busy()
	w.Slots[9] = sample.Key(api.Bell, south+bell, 1, 9, -1)
	v, last := seen(w, 0, north), seen(w, south, 24)
	v.Ram, v.Slots, v.Tasks = slices.Concat(v.Ram, last.Ram), slices.Concat(v.Slots, last.Slots), slices.Concat(v.Tasks, last.Tasks)
	v.Kinds, v.Lines, v.Bits = slices.Concat(v.Kinds, last.Kinds), slices.Concat(v.Lines, last.Lines), slices.Concat(v.Bits, last.Bits)
	v.Runs[1] = task
	v.Turns[6] = []int{south + task, south + mate}
	sees(t, "the first and the last", w, 0, v)
	w.Tasks[north+mate].Space = south + space
	v = seen(w, 0, 24)
	v.Runs, v.Turns = w.Cores, w.Ready
	sees(t, "all", w, 0, v)
	w = sample.Full()
	v = seen(w, 0, 23)
	v.Runs, v.Turns = w.Cores, w.Ready
	sees(t, "a full world", w, 0, v)
	sees(t, "its last frame", w, 23, seen(w, 23, 24))
}

// N2: a frame that is nothing sees itself, and that nobody runs; of all cores there are.
func TestSeeNothing(t *testing.T) {
	for cores := 1; cores <= api.MaxCores; cores++ {
		w := sample.Hollow(3, cores, 0)
		w.Ram[16] = 9
		for part := range 3 {
			sees(t, "nothing is there", w, part, seen(w, part, part+1))
		}
	}
}

// nothingSeen: is a part refused with this error, and nothing seen beside?
func nothingSeen(t *testing.T, w api.World, part int, want api.Errno) {
	t.Helper()
	if got, err := parts.See(w, part); err != error(want) || fmt.Sprint(got) != fmt.Sprint(parts.View{}) {
		t.Errorf("part %d: %v, %v, want %v", part, got, err, want)
	}
}

// N2: only the least frame of a part is its number; of what is not sound nothing is told, whatever the part.
func TestSeeRefused(t *testing.T) {
	w := isles()
	for _, part := range []int{math.MinInt, -1, 24, 25, math.MaxInt} {
		nothingSeen(t, w, part, api.ErrRange)
	}
	for frame := range 24 {
		if frame%size != 0 {
			nothingSeen(t, w, frame, api.ErrRange)
		}
	}
	w.Slots[9] = sample.Key(api.Node, north, 1, 0, -1)
	nothingSeen(t, w, north, api.ErrRange)
	nothingSeen(t, sample.Hollow(3, 1, 0), 3, api.ErrRange)
	for _, w := range unsound() {
		for _, part := range []int{math.MinInt, -1, 0, 1, 24, math.MaxInt} {
			nothingSeen(t, w, part, api.ErrState)
		}
	}
}

// isChanged: are these the frames that are not the same in two worlds, whichever is the first? Both are not written into.
func isChanged(t *testing.T, why string, a, b api.World, want ...int) {
	t.Helper()
	if world.Check(a) != nil || world.Check(b) != nil {
		t.Fatalf("%s: these worlds to begin with are not sound: %v, %v", why, world.Check(a), world.Check(b))
	}
	one, wholeOne := sample.Roomy(a)
	two, wholeTwo := sample.Roomy(b)
	before := fmt.Sprint(wholeOne, wholeTwo)
	got, err := parts.Changed(one, two)
	back, errBack := parts.Changed(two, one)
	if err != nil || errBack != nil || !slices.Equal(got, want) || !slices.Equal(back, want) {
		t.Errorf("%s: %v, %v, and back: %v, %v, want %v", why, got, err, back, errBack, want)
	}
	if fmt.Sprint(wholeOne, wholeTwo) != before {
		t.Errorf("%s: what was handed in is written into", why)
	}
}

// N2: a frame is another one by a word, a slot, its task, kind, line or bits; and by nothing else.
func TestChanged(t *testing.T) {
	isChanged(t, "the same world", busy(), busy())
	for _, c := range []struct {
		why  string
		do   sample.Change
		want []int
	}{
		{"the first word", func(w *api.World) { w.Ram[0] = 9 }, []int{0}},
		{"the last word", func(w *api.World) { w.Ram[383] = 9 }, []int{23}},
		{"the last word of a frame", func(w *api.World) { w.Ram[16*page+15] = 9 }, []int{page}},
		{"the first word of the next one", func(w *api.World) { w.Ram[16*page+16] = 9 }, []int{task}},
		{"a key more", func(w *api.World) { w.Slots[15] = sample.Key(api.Bell, bell, 1, 0, -1) }, []int{0}},
		{"a key with other rights", func(w *api.World) { w.Slots[16*north].Key.Rights = 6 }, []int{north}},
		{"a key that was made from another one", func(w *api.World) {
			w.Slots[16*south+15] = sample.Key(api.Bell, bell, 1, 0, bell)
		}, []int{south}},
		{"a task's register", func(w *api.World) { w.Tasks[south+task].Regs[7] = 1 }, []int{south + task}},
		{"a task's domain", func(w *api.World) { w.Tasks[task].Dom = 0 }, []int{task}},
		{"what a task is told", func(w *api.World) { w.Tasks[mate].Word = 1 }, []int{mate}},
		{"a thing's kind", func(w *api.World) {
			w.Kinds[north+door] = api.Page
			w.Slots[16*north+door].Key.Kind = api.Page
		}, []int{north, north + door}},
		{"a kind alone", func(w *api.World) {
			w.Kinds[south+door], w.Kinds[south+page] = api.Node, api.Node
			w.Slots[16*south+door].Key.Kind = api.Node
			w.Slots[16*south+page].Key.Kind = api.Node
		}, []int{south, south + page, south + door}},
		{"a bell's bits", func(w *api.World) { w.Bits[south+bell] = 5 }, []int{south + bell}},
		{"who stands in a line", func(w *api.World) { sample.Stand(w, south+mate, door, api.Sending); w.Ready[6] = w.Ready[6][:2] }, []int{door, south + mate}},
		{"who is next", func(w *api.World) { slices.Reverse(w.Ready[6]) }, nil},
		{"who runs", func(w *api.World) { w.Cores[0] = -1; w.Ready[0] = append(w.Ready[0], north+task) }, nil},
		{"what is remembered", func(w *api.World) { w.Tlbs[0] = nil }, nil},
		{"the timetable", func(w *api.World) { w.Doms = []int{2} }, nil},
		{"the time", func(w *api.World) { w.Time = 1000000 }, nil},
		{"more cores", func(w *api.World) {
			w.Cores, w.Tlbs, w.Ready = append(w.Cores, -1), append(w.Tlbs, nil), append(w.Ready, nil, nil, nil, nil)
		}, nil},
		{"empty lists instead of none", func(w *api.World) {
			for n, l := range w.Lines {
				w.Lines[n] = append([]int{}, l...)
			}
		}, nil},
	} {
		w := busy()
		c.do(&w)
		isChanged(t, c.why, busy(), w, c.want...)
	}
	all := leasts(0, 1, 2, 3, 4, 5, 6, 7, 8, 9, 10, 11, 12, 13, 14, 15, 16, 17, 18, 19, 20, 21, 22, 23)
	w := sample.Hollow(24, 1, 0)
	for frame := range 24 {
		w.Ram[16*frame+frame%16] = 1
	}
	isChanged(t, "all", sample.Hollow(24, 1, 0), w, all...)
}

// N2: each line by who stands there, and in which order.
func TestChangedLines(t *testing.T) {
	w := busy()
	sample.Stand(&w, south+mate, door, api.Sending)
	w.Ready[6] = w.Ready[6][:2]
	other, _ := sample.Roomy(w)
	slices.Reverse(other.Lines[door])
	isChanged(t, "the order of a line", w, other, door)
}

// notTold: are two worlds refused with this error, and nothing told beside?
func notTold(t *testing.T, why string, a, b api.World, want api.Errno) {
	t.Helper()
	if got, err := parts.Changed(a, b); err != error(want) || len(got) != 0 {
		t.Errorf("%s: %v, %v, want %v", why, got, err, want)
	}
}

// N2: worlds that are not sound, or not of as many frames.
func TestChangedRefused(t *testing.T) {
	small := sample.Hollow(23, 2, 0, 1)
	notTold(t, "the first has less frames", small, isles(), api.ErrRange)
	notTold(t, "the first has more frames", isles(), small, api.ErrRange)
	notTold(t, "one and two", sample.Hollow(1, 1, 0), sample.Hollow(2, 1, 0), api.ErrRange)
	for n, w := range unsound() {
		notTold(t, fmt.Sprint("the first is not sound: ", n), w, isles(), api.ErrState)
		notTold(t, fmt.Sprint("the second is not sound: ", n), isles(), w, api.ErrState)
		notTold(t, fmt.Sprint("both are the same, and not sound: ", n), w, w, api.ErrState)
		notTold(t, fmt.Sprint("not sound, and smaller: ", n), small, w, api.ErrState)
		notTold(t, fmt.Sprint("not sound, and larger: ", n), w, small, api.ErrState)
	}
}
