package isa_test

import (
	"math"
	"slices"
	"strings"
	"testing"

	"keyhold/api"
	"keyhold/isa"
)

// isBare: is it this error, without a place (OK: none)?
func isBare(err error, want api.Errno) bool {
	if want == api.OK {
		return err == nil
	}
	return err == error(want)
}

// isFault: is it an *api.Fault with this error and place?
func isFault(err error, want api.Errno, at int) bool {
	f, ok := err.(*api.Fault)
	return ok && f.At == at && f.Err == error(want)
}

// known: each instruction's name, and its parts as the chapter tells them.
var known = []struct {
	op        int
	name      string
	a, b, imm bool
}{
	{api.Halt, "halt", false, false, false},
	{api.Set, "set", true, false, true},
	{api.Mov, "mov", true, true, false},
	{api.Add, "add", true, true, false},
	{api.Sub, "sub", true, true, false},
	{api.Mul, "mul", true, true, false},
	{api.And, "and", true, true, false},
	{api.Or, "or", true, true, false},
	{api.Xor, "xor", true, true, false},
	{api.Less, "less", true, true, false},
	{api.Load, "load", true, true, true},
	{api.Store, "store", true, true, true},
	{api.Jump, "jump", false, false, true},
	{api.Zero, "zero", true, false, true},
	{api.Sys, "sys", false, false, true},
}

// B1: of each instruction each part, in and out of its bounds.
func TestCheckParts(t *testing.T) {
	if len(known) != api.Ops {
		t.Fatalf("%d instructions, %d are known", api.Ops, len(known))
	}
	regs := []int{math.MinInt, -1, 0, 1, 7, 8, 16, math.MaxInt}
	imms := []int{math.MinInt, -65536, -32769, -32768, -1, 0, 1, 32767, 32768, 65535, math.MaxInt}
	fits := func(v int, has bool, least, most int) bool {
		return has && least <= v && v <= most || v == 0
	}
	for _, k := range known {
		for _, a := range regs {
			for _, b := range regs {
				for _, imm := range imms {
					i := api.Ins{Op: k.op, A: a, B: b, Imm: imm}
					want := api.ErrRange
					if fits(a, k.a, 0, 7) && fits(b, k.b, 0, 7) && fits(imm, k.imm, -32768, 32767) {
						want = api.OK
					}
					checkCode(t, i, want)
				}
			}
		}
	}
}

// checkCode: Check and Encode have this error; without one the code tells the instruction.
func checkCode(t *testing.T, i api.Ins, want api.Errno) {
	t.Helper()
	if err := isa.Check(i); !isBare(err, want) {
		t.Fatalf("Check(%v): %v, want error %d", i, err, want)
	}
	w, err := isa.Encode(i)
	if !isBare(err, want) {
		t.Fatalf("Encode(%v): %v, want error %d", i, err, want)
	}
	if err != nil {
		if w != [2]int{} {
			t.Fatalf("Encode(%v): %v beside an error", i, w)
		}
		return
	}
	if w[0] != i.Op*256+i.A*16+i.B || w[1] != (i.Imm+65536)%65536 {
		t.Fatalf("Encode(%v): %v", i, w)
	}
	if back, err := isa.Decode(w); back != i || err != nil {
		t.Fatalf("Decode(%v): %v, %v, want %v", w, back, err, i)
	}
}

// B1: no such instruction, whatever its parts are.
func TestCheckOps(t *testing.T) {
	for _, op := range []int{math.MinInt, -256, -1, api.Ops, api.Ops + 1, 255, 256, math.MaxInt} {
		checkCode(t, api.Ins{Op: op}, api.ErrWord)
		checkCode(t, api.Ins{Op: op, A: 9, B: -1, Imm: 70000}, api.ErrWord)
	}
}

// B1: codes as they are written down.
func TestEncode(t *testing.T) {
	cases := []struct {
		i api.Ins
		w [2]int
	}{
		{api.Ins{Op: api.Halt}, [2]int{0, 0}},
		{api.Ins{Op: api.Load, A: 1, B: 2, Imm: -1}, [2]int{2578, 65535}},
		{api.Ins{Op: api.Set, A: 3, Imm: 9}, [2]int{0x0130, 9}},
		{api.Ins{Op: api.Set, A: 1, Imm: -32768}, [2]int{0x0110, 32768}},
		{api.Ins{Op: api.Set, A: 1, Imm: 32767}, [2]int{0x0110, 32767}},
		{api.Ins{Op: api.Less, A: 7, B: 6}, [2]int{0x0976, 0}},
		{api.Ins{Op: api.Sys, Imm: 17}, [2]int{0x0e00, 17}},
		{api.Ins{Op: api.Jump}, [2]int{0x0c00, 0}},
	}
	for _, c := range cases {
		if w, err := isa.Encode(c.i); w != c.w || err != nil {
			t.Errorf("Encode(%v): %v, %v, want %v", c.i, w, err, c.w)
		}
		if i, err := isa.Decode(c.w); i != c.i || err != nil {
			t.Errorf("Decode(%v): %v, %v, want %v", c.w, i, err, c.i)
		}
	}
}

// B1: words that are no instruction's.
func TestDecodeWrong(t *testing.T) {
	cases := [][2]int{
		{0x0f00, 0},           // no such instruction
		{0xff00, 0},           //
		{0x10000, 0},          // no word
		{-1, 0},               // a part below 0
		{-16, 0},              //
		{-256, 0},             //
		{math.MinInt, 0},      //
		{math.MaxInt, 0},      //
		{0x0001, 0},           // halt has no part
		{0x0010, 0},           //
		{0x0000, 1},           //
		{0x0000, 65535},       //
		{0x0101, 5},           // set has no B
		{0x0180, 5},           // no such register
		{0x0208, 0},           //
		{0x02f0, 0},           //
		{0x0212, 1},           // mov has no Imm
		{0x0212, 65536},       //
		{0x0c10, 1},           // jump has no register
		{0x0c01, 1},           //
		{0x0d11, 1},           // zero has no B
		{0x0e00, -1},          // no word
		{0x0e00, -32768},      //
		{0x0e00, 65536},       //
		{0x0e00, 65537},       //
		{0x0e00, math.MinInt}, //
		{0x0e00, math.MaxInt}, //
		{0x0000, -65536},      //
	}
	for _, w := range cases {
		if i, err := isa.Decode(w); i != (api.Ins{}) || !isBare(err, api.ErrWord) {
			t.Errorf("Decode(%v): %v, %v, want ErrWord", w, i, err)
		}
	}
}

// B1: each first word, with some second ones: what is an instruction has this code, and there are as many as the parts allow.
func TestDecodeEveryWord(t *testing.T) {
	for _, imm := range []int{0, 1, 32767, 32768, 65535} {
		want := 8 + 2*64 + 2 + 8 // set; load, store; jump, sys; zero
		if imm == 0 {
			want += 1 + 8*64 // halt; mov to less
		}
		n := 0
		for first := range api.MaxWord + 1 {
			w := [2]int{first, imm}
			i, err := isa.Decode(w)
			if err != nil {
				continue
			}
			n++
			if back, err := isa.Encode(i); back != w || err != nil {
				t.Fatalf("Encode(Decode(%v)): %v, %v", w, back, err)
			}
		}
		if n != want {
			t.Errorf("second word %d: %d instructions, want %d", imm, n, want)
		}
	}
}

// B2: lines as they are written down.
func TestText(t *testing.T) {
	l := []api.Ins{
		{Op: api.Halt},
		{Op: api.Set, A: 1, Imm: 3},
		{Op: api.Set, A: 2, Imm: -7},
		{Op: api.Mov, A: 1, B: 2},
		{Op: api.Add, A: 0, B: 7},
		{Op: api.Sub, A: 1, B: 2},
		{Op: api.Mul, A: 1, B: 2},
		{Op: api.And, A: 1, B: 2},
		{Op: api.Or, A: 1, B: 2},
		{Op: api.Xor, A: 1, B: 2},
		{Op: api.Less, A: 0, B: 0},
		{Op: api.Load, A: 1, B: 2, Imm: -32768},
		{Op: api.Store, A: 3, B: 4, Imm: 32767},
		{Op: api.Jump, Imm: 0},
		{Op: api.Zero, A: 1, Imm: 2},
		{Op: api.Sys, Imm: -1},
	}
	want := "halt\nset r1 3\nset r2 -7\nmov r1 r2\nadd r0 r7\nsub r1 r2\nmul r1 r2\nand r1 r2\nor r1 r2\nxor r1 r2\nless r0 r0\n" +
		"load r1 r2 -32768\nstore r3 r4 32767\njump 0\nzero r1 2\nsys -1\n"
	if s, err := isa.Text(l); s != want || err != nil {
		t.Errorf("Text: %q, %v, want %q", s, err, want)
	}
	if back, err := isa.Parse(want); !slices.Equal(back, l) || err != nil {
		t.Errorf("Parse: %v, %v, want %v", back, err, l)
	}
	if s, err := isa.Text(nil); s != "" || err != nil {
		t.Errorf("Text of nothing: %q, %v", s, err)
	}
}

// B2: Text's errors.
func TestTextWrong(t *testing.T) {
	cases := []struct {
		l    []api.Ins
		want api.Errno
		at   int
	}{
		{[]api.Ins{{Op: -1}}, api.ErrWord, 0},
		{[]api.Ins{{}, {Op: api.Ops}, {Op: api.Set, A: 8}}, api.ErrWord, 1},
		{[]api.Ins{{}, {}, {Op: api.Set, A: 8}, {Op: api.Ops}}, api.ErrRange, 2},
		{[]api.Ins{{Imm: 1}}, api.ErrRange, 0},
		{append(make([]api.Ins, 39), api.Ins{B: 1}), api.ErrRange, 39},
	}
	for _, c := range cases {
		if s, err := isa.Text(c.l); s != "" || !isFault(err, c.want, c.at) {
			t.Errorf("Text(%v): %q, %v, want error %d at %d", c.l, s, err, c.want, c.at)
		}
	}
}

// B2: the bound of the instructions, ahead of what is wrong with them.
func TestTextLong(t *testing.T) {
	l := make([]api.Ins, 41)
	if s, err := isa.Text(l[:40]); s != strings.Repeat("halt\n", 40) || err != nil {
		t.Errorf("Text of 40: %q, %v", s, err)
	}
	l[0].Op = -1
	if s, err := isa.Text(l); s != "" || !isBare(err, api.ErrRange) {
		t.Errorf("Text of 41: %q, %v, want ErrRange", s, err)
	}
}

// Z2: what is handed in stays as it was; what comes out is the caller's.
func TestMemory(t *testing.T) {
	l := []api.Ins{{Op: api.Sys, Imm: 1}, {Op: api.Halt}, {Op: -1}}
	if s, err := isa.Text(l[:2]); s != "sys 1\nhalt\n" || err != nil {
		t.Errorf("Text of a piece: %q, %v", s, err)
	}
	if !slices.Equal(l, []api.Ins{{Op: api.Sys, Imm: 1}, {Op: api.Halt}, {Op: -1}}) {
		t.Errorf("Text wrote into its list: %v", l)
	}
	a, _ := isa.Parse("sys 1\nhalt")
	a[0].Imm = 9
	if b, _ := isa.Parse("sys 1\nhalt"); !slices.Equal(b, []api.Ins{{Op: api.Sys, Imm: 1}, {Op: api.Halt}}) {
		t.Errorf("Parse keeps its list: %v", b)
	}
}
