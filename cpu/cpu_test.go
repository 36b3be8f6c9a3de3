package cpu_test

import (
	"math"
	"slices"
	"strconv"
	"testing"

	"keyhold/api"
	"keyhold/cpu"
	"keyhold/isa"
)

// bus: words that are there; of those in fixed none can be written. It notes what it is asked for.
type bus struct {
	words map[int]int
	fixed []int
	asked []string
}

func (b *bus) Load(at int) (int, bool) {
	b.asked = append(b.asked, "load "+strconv.Itoa(at))
	v, ok := b.words[at]
	return v, ok
}

func (b *bus) Store(at, v int) bool {
	b.asked = append(b.asked, "store "+strconv.Itoa(at)+" "+strconv.Itoa(v))
	if _, ok := b.words[at]; !ok || slices.Contains(b.fixed, at) {
		return false
	}
	b.words[at] = v
	return true
}

// busWith has the two words of an instruction at pc, and no others.
func busWith(t *testing.T, pc int, i api.Ins) *bus {
	t.Helper()
	code, err := isa.Encode(i)
	if err != nil {
		t.Fatalf("Encode(%v): %v", i, err)
	}
	return &bus{words: map[int]int{pc: code[0], (pc + 1) % 65536: code[1]}}
}

// task has something in each of its parts, so that one that changes is seen.
func task(pc int) api.Running {
	return api.Running{
		Regs: [8]int{10, 11, 12, 13, 14, 15, 16, 17}, Pc: pc, State: api.Ready, Prio: 2, Node: 3, Space: 4,
		Helper: 5, At: 6, Word: 7, Badge: 8, Owes: 9, Core: 1, Dom: 2,
	}
}

// want: Step answers this, having asked the bus for this behind the instruction's words.
func want(t *testing.T, why string, b *bus, from, to api.Running, event cpu.Event, n int, asked ...string) {
	t.Helper()
	u, e, m := cpu.Step(from, b)
	if u != to || e != event || m != n {
		t.Errorf("%s: %v, %d, %d, want %v, %d, %d", why, u, e, m, to, event, n)
	}
	if len(b.asked) < 2 || !slices.Equal(b.asked[2:], asked) {
		t.Errorf("%s: asked for %q, want two loads and %q", why, b.asked, asked)
	}
}

// The numbers of events are as the chapter has them.
func TestEvents(t *testing.T) {
	if cpu.Went != 0 || cpu.Asked != 1 || cpu.Failed != 2 || cpu.Ended != 3 {
		t.Errorf("events: %d %d %d %d", cpu.Went, cpu.Asked, cpu.Failed, cpu.Ended)
	}
}

// The document's example.
func TestExample(t *testing.T) {
	b := &bus{words: map[int]int{0: 0x0130, 1: 9}}
	u, e, n := cpu.Step(api.Running{}, b)
	if u != (api.Running{Regs: [8]int{3: 9}, Pc: 2}) || e != cpu.Went || n != 0 {
		t.Errorf("set r3 9: %v, %d, %d", u, e, n)
	}
}

// C1: what comes of two registers: a is the first one then, b stays.
func TestRegisters(t *testing.T) {
	cases := []struct{ op, a, b, want int }{
		{api.Mov, 5, 9, 9},
		{api.Mov, 65535, 0, 0},
		{api.Mov, 0, 65535, 65535},
		{api.Add, 5, 9, 14},
		{api.Add, 65535, 1, 0},
		{api.Add, 65535, 65535, 65534},
		{api.Sub, 9, 5, 4},
		{api.Sub, 5, 9, 65532},
		{api.Sub, 0, 1, 65535},
		{api.Sub, 0, 65535, 1},
		{api.Sub, 7, 7, 0},
		{api.Mul, 5, 9, 45},
		{api.Mul, 256, 256, 0},
		{api.Mul, 65535, 65535, 1},
		{api.Mul, 65535, 2, 65534},
		{api.And, 0xff0f, 0x0fff, 0x0f0f},
		{api.And, 0xaaaa, 0x5555, 0},
		{api.Or, 0xf000, 0x000f, 0xf00f},
		{api.Or, 0xaaaa, 0x5555, 0xffff},
		{api.Xor, 0xff00, 0x0ff0, 0xf0f0},
		{api.Xor, 0xffff, 0xffff, 0},
		{api.Less, 5, 9, 1},
		{api.Less, 9, 5, 0},
		{api.Less, 7, 7, 0},
		{api.Less, 0, 65535, 1},
		{api.Less, 65535, 0, 0},
		{api.Less, 32767, 32768, 1},
		{api.Less, 32768, 32767, 0},
	}
	for _, c := range cases {
		i := api.Ins{Op: c.op, A: 2, B: 5}
		from := task(100)
		from.Regs[2], from.Regs[5] = c.a, c.b
		to := from
		to.Pc, to.Regs[2] = 102, c.want
		want(t, "op "+strconv.Itoa(c.op)+" of "+strconv.Itoa(c.a)+", "+strconv.Itoa(c.b), busWith(t, 100, i), from, to, cpu.Went, 0)
	}
}

// C1: one register with itself.
func TestRegisterWithItself(t *testing.T) {
	cases := map[int]int{api.Mov: 300, api.Add: 600, api.Sub: 0, api.Mul: 24464, api.And: 300, api.Or: 300, api.Xor: 0, api.Less: 0}
	for op, v := range cases {
		from := task(0)
		from.Regs[7] = 300
		to := from
		to.Pc, to.Regs[7] = 2, v
		want(t, "op "+strconv.Itoa(op)+" r7 r7", busWith(t, 0, api.Ins{Op: op, A: 7, B: 7}), from, to, cpu.Went, 0)
	}
}

// C1: each register is the one that an instruction names.
func TestEachRegister(t *testing.T) {
	for a := range 8 {
		for b := range 8 {
			to := task(2)
			to.Regs[a] = 10 + b
			want(t, "mov", busWith(t, 0, api.Ins{Op: api.Mov, A: a, B: b}), task(0), to, cpu.Went, 0)
		}
	}
}

// C1: set takes Imm as a word.
func TestSet(t *testing.T) {
	for imm, v := range map[int]int{0: 0, 1: 1, 9: 9, 32767: 32767, -1: 65535, -32768: 32768} {
		to := task(2)
		to.Regs[3] = v
		want(t, "set r3 "+strconv.Itoa(imm), busWith(t, 0, api.Ins{Op: api.Set, A: 3, Imm: imm}), task(0), to, cpu.Went, 0)
	}
}

// C1: jump, and zero of a register that is 0, or is not.
func TestJump(t *testing.T) {
	for imm, pc := range map[int]int{0: 0, 6: 6, 7: 7, 32767: 32767, -1: 65535, -2: 65534, -32768: 32768} {
		want(t, "jump "+strconv.Itoa(imm), busWith(t, 40, api.Ins{Op: api.Jump, Imm: imm}), task(40), task(pc), cpu.Went, 0)
		zero := api.Ins{Op: api.Zero, A: 1, Imm: imm}
		for _, v := range []int{0, 1, 32768, 65535} {
			from, to := task(40), task(42)
			from.Regs[1], to.Regs[1] = v, v
			if v == 0 {
				to.Pc = pc
			}
			want(t, "zero "+strconv.Itoa(imm), busWith(t, 40, zero), from, to, cpu.Went, 0)
		}
	}
}

// C1: sys tells Imm as it is; Pc is 2 more then.
func TestSys(t *testing.T) {
	for _, imm := range []int{0, 1, 17, 18, 32767, -1, -32768} {
		want(t, "sys "+strconv.Itoa(imm), busWith(t, 8, api.Ins{Op: api.Sys, Imm: imm}), task(8), task(10), cpu.Asked, imm)
	}
}

// C1: halt leaves all as it was, Pc, too.
func TestHalt(t *testing.T) {
	for _, pc := range []int{0, 8, 65535} {
		want(t, "halt", busWith(t, pc, api.Ins{Op: api.Halt}), task(pc), task(pc), cpu.Ended, 0)
	}
}

// places: b and Imm, and the address that both are.
var places = []struct{ b, imm, at int }{
	{200, 0, 200},
	{200, 5, 205},
	{200, -5, 195},
	{0, -1, 65535},
	{0, -32768, 32768},
	{65535, 0, 65535},
	{65535, 1, 0},
	{65535, 32767, 32766},
	{40000, 32767, 7231},
}

// C1: load takes what is there.
func TestLoad(t *testing.T) {
	for _, p := range places {
		for _, v := range []int{0, 1, 65535} {
			b := busWith(t, 100, api.Ins{Op: api.Load, A: 3, B: 6, Imm: p.imm})
			b.words[p.at] = v
			from, to := task(100), task(102)
			from.Regs[6], to.Regs[6] = p.b, p.b
			to.Regs[3] = v
			want(t, "load", b, from, to, cpu.Went, 0, "load "+strconv.Itoa(p.at))
		}
	}
}

// C1: store puts the first register there, and changes none.
func TestStore(t *testing.T) {
	for _, p := range places {
		for _, v := range []int{0, 1, 65535} {
			b := busWith(t, 100, api.Ins{Op: api.Store, A: 3, B: 6, Imm: p.imm})
			b.words[p.at] = 77
			from := task(100)
			from.Regs[3], from.Regs[6] = v, p.b
			to := from
			to.Pc = 102
			want(t, "store", b, from, to, cpu.Went, 0, "store "+strconv.Itoa(p.at)+" "+strconv.Itoa(v))
			if b.words[p.at] != v || len(b.words) != 3 {
				t.Errorf("store of %d at %d: %v", v, p.at, b.words)
			}
		}
	}
}

// C1: load and store by the register that they work on.
func TestLoadStoreSameRegister(t *testing.T) {
	b := busWith(t, 0, api.Ins{Op: api.Load, A: 4, B: 4, Imm: 1})
	b.words[15] = 99
	to := task(2)
	to.Regs[4] = 99
	want(t, "load r4 r4 1", b, task(0), to, cpu.Went, 0, "load 15")
	b = busWith(t, 0, api.Ins{Op: api.Store, A: 4, B: 4, Imm: 1})
	b.words[15] = 99
	want(t, "store r4 r4 1", b, task(0), task(2), cpu.Went, 0, "store 15 14")
}

// C1: where load or store can't: all as it was, and that address.
func TestLoadStoreFail(t *testing.T) {
	for _, p := range places {
		from := task(100)
		from.Regs[6] = p.b
		at := strconv.Itoa(p.at)
		b := busWith(t, 100, api.Ins{Op: api.Load, A: 3, B: 6, Imm: p.imm})
		want(t, "load", b, from, from, cpu.Failed, p.at, "load "+at)
		b = busWith(t, 100, api.Ins{Op: api.Store, A: 3, B: 6, Imm: p.imm})
		want(t, "store at no word", b, from, from, cpu.Failed, p.at, "store "+at+" 13")
		b = busWith(t, 100, api.Ins{Op: api.Store, A: 3, B: 6, Imm: p.imm})
		b.words[p.at], b.fixed = 77, []int{p.at}
		want(t, "store at a word that can't be written", b, from, from, cpu.Failed, p.at, "store "+at+" 13")
		if b.words[p.at] != 77 {
			t.Errorf("store at %s wrote", at)
		}
	}
}

// C1: where an instruction's words can't be had: the first that can't is told, and no more is asked for.
func TestFetchFail(t *testing.T) {
	for _, pc := range []int{0, 1, 7, 32768, 65534, 65535} {
		second := (pc + 1) % 65536
		cases := []struct {
			words map[int]int
			at    int
			asked []string
		}{
			{map[int]int{}, pc, []string{"load " + strconv.Itoa(pc)}},
			{map[int]int{second: 0}, pc, []string{"load " + strconv.Itoa(pc)}},
			{map[int]int{pc: 0}, second, []string{"load " + strconv.Itoa(pc), "load " + strconv.Itoa(second)}},
		}
		for _, c := range cases {
			b := &bus{words: c.words}
			u, e, n := cpu.Step(task(pc), b)
			if u != task(pc) || e != cpu.Failed || n != c.at || !slices.Equal(b.asked, c.asked) {
				t.Errorf("Pc %d, words %v: %v, %d, %d, asked for %q", pc, c.words, u, e, n, b.asked)
			}
		}
	}
}

// C1: two words that are no instruction.
func TestNoInstruction(t *testing.T) {
	for _, code := range [][2]int{
		{0x0f00, 0}, {0xffff, 0}, {0x8000, 0}, // no such op
		{0x0180, 0}, {0x0208, 0}, {0x0280, 0}, // no such register
		{0x0000, 1}, {0x0010, 0}, {0x0001, 0}, // halt has no parts
		{0x0101, 9}, {0x0312, 1}, {0x0c10, 0}, {0x0e01, 1}, // parts that they have not
	} {
		b := &bus{words: map[int]int{20: code[0], 21: code[1]}}
		want(t, "no instruction", b, task(20), task(20), cpu.Failed, -1)
	}
}

// C1: each first word, with some second ones: what is no instruction fails at -1, all else does not.
func TestEachCode(t *testing.T) {
	for first := range 65536 {
		for _, second := range []int{0, 1, 65535} {
			_, err := isa.Decode([2]int{first, second})
			b := &bus{words: map[int]int{20: first, 21: second}}
			u, e, n := cpu.Step(task(20), b)
			if none := e == cpu.Failed && n == -1; none != (err != nil) || none && u != task(20) {
				t.Fatalf("%04x %04x: %v, %d, %d; Decode: %v", first, second, u, e, n, err)
			}
		}
	}
}

// C1: Pc goes round behind the last address.
func TestPcWraps(t *testing.T) {
	for pc, next := range map[int]int{65533: 65535, 65534: 0, 65535: 1} {
		to := task(next)
		to.Regs[0] = 5
		b := busWith(t, pc, api.Ins{Op: api.Set, Imm: 5})
		want(t, "set", b, task(pc), to, cpu.Went, 0)
		if l := []string{"load " + strconv.Itoa(pc), "load " + strconv.Itoa((pc+1)%65536)}; !slices.Equal(b.asked, l) {
			t.Errorf("Pc %d: asked for %q, want %q", pc, b.asked, l)
		}
		want(t, "sys", busWith(t, pc, api.Ins{Op: api.Sys, Imm: 3}), task(pc), task(next), cpu.Asked, 3)
	}
}

// C1: an instruction may write over its own words; the next Step sees it.
func TestStoreOverItself(t *testing.T) {
	b := busWith(t, 14, api.Ins{Op: api.Store, A: 0, B: 4, Imm: 0})
	want(t, "store", b, task(14), task(16), cpu.Went, 0, "store 14 10")
	want(t, "no instruction any more", &bus{words: b.words}, task(14), task(14), cpu.Failed, -1)
}

// A program, step by step: 3 and 2 and 1, added up and stored.
func TestProgram(t *testing.T) {
	l, err := isa.Parse("set r1 3\nset r2 1\nloop:\nadd r3 r1\nsub r1 r2\nzero r1 done\njump loop\ndone:\nstore r3 r0 100\nload r4 r0 100\nsys 7\nhalt")
	if err != nil {
		t.Fatal(err)
	}
	b := &bus{words: map[int]int{100: 0}}
	for n, i := range l {
		code, _ := isa.Encode(i)
		b.words[2*n], b.words[2*n+1] = code[0], code[1]
	}
	var u api.Running
	var events []cpu.Event
	var last int
	for range 20 {
		var e cpu.Event
		if u, e, last = cpu.Step(u, b); e != cpu.Went {
			events = append(events, e)
		}
		if e == cpu.Ended {
			break
		}
	}
	if u != (api.Running{Regs: [8]int{2: 1, 3: 6, 4: 6}, Pc: 18}) || b.words[100] != 6 || last != 0 {
		t.Errorf("at the end: %v, %d", u, b.words[100])
	}
	if !slices.Equal(events, []cpu.Event{cpu.Asked, cpu.Ended}) {
		t.Errorf("events: %v", events)
	}
}

// wild: a bus that panics at each address behind its words.
type wild struct{ code []int }

func (w wild) Load(at int) (int, bool) { return w.code[at], true }
func (w wild) Store(at, v int) bool    { w.code[at] = v; return true }

// Z1: no bus, and one that panics, can't; Step does not panic.
func TestWrongBus(t *testing.T) {
	for _, b := range []cpu.Bus{nil, (*bus)(nil), wild{}} {
		if u, e, n := cpu.Step(task(7), b); u != task(7) || e != cpu.Failed || n != 7 {
			t.Errorf("bus %v: %v, %d, %d", b, u, e, n)
		}
	}
	for _, op := range []int{api.Load, api.Store} {
		code, _ := isa.Encode(api.Ins{Op: op, A: 1, B: 2, Imm: 3})
		if u, e, n := cpu.Step(task(0), wild{code[:]}); u != task(0) || e != cpu.Failed || n != 15 {
			t.Errorf("op %d: %v, %d, %d", op, u, e, n)
		}
	}
	// The first word is told, the second one is not.
	if u, e, n := cpu.Step(task(0), wild{[]int{0}}); u != task(0) || e != cpu.Failed || n != 1 {
		t.Errorf("one word: %v, %d, %d", u, e, n)
	}
}

// loose: a bus of words that are none.
type loose struct{ v int }

func (l loose) Load(at int) (int, bool) { return l.v, true }
func (l loose) Store(at, v int) bool    { return true }

// Z1: whatever the numbers are, Step ends, and what it changes are words.
func TestWrongNumbers(t *testing.T) {
	for _, v := range []int{math.MinInt, -65536, -1, 65536, 65536 + 0x0100, math.MaxInt} {
		from := task(v)
		for r := range from.Regs {
			from.Regs[r] = v
		}
		if u, e, n := cpu.Step(from, loose{v}); e == cpu.Failed && (u != from || n < -1 || n > 65535) {
			t.Errorf("%d: %v, %d, %d", v, u, e, n)
		}
		for op := range api.Ops {
			code, _ := isa.Encode(api.Ins{Op: op})
			b := &bus{words: map[int]int{v & 65535: code[0], (v + 1) & 65535: code[1]}}
			u, e, _ := cpu.Step(from, b)
			if e == cpu.Went && (u.Pc < 0 || u.Pc > 65535) {
				t.Errorf("op %d with %d: Pc %d", op, v, u.Pc)
			}
			if r := u.Regs[0]; r != v && (r < 0 || r > 65535) {
				t.Errorf("op %d with %d: register 0 is %d", op, v, r)
			}
		}
	}
}
