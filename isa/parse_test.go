package isa_test

import (
	"slices"
	"strings"
	"testing"

	"keyhold/api"
	"keyhold/isa"
)

// B3: what texts tell.
func TestParse(t *testing.T) {
	set := func(imm int) api.Ins { return api.Ins{Op: api.Set, A: 1, Imm: imm} }
	jump := func(to int) api.Ins { return api.Ins{Op: api.Jump, Imm: to} }
	halt := api.Ins{Op: api.Halt}
	cases := []struct {
		text string
		want []api.Ins
	}{
		{"", nil},
		{"halt", []api.Ins{halt}},
		{"halt\n", []api.Ins{halt}},
		{"halt\nhalt", []api.Ins{halt, halt}},
		{"set r1 3\nloop:\nsub r1 r2\nzero r1 loop", []api.Ins{set(3), {Op: api.Sub, A: 1, B: 2}, {Op: api.Zero, A: 1, Imm: 2}}},
		{"load r7 r0 -1\nstore r0 r7 1", []api.Ins{{Op: api.Load, A: 7, Imm: -1}, {Op: api.Store, B: 7, Imm: 1}}},

		{"set r1 0", []api.Ins{set(0)}},
		{"set r1 10", []api.Ins{set(10)}},
		{"set r1 32767\nset r1 -32768", []api.Ins{set(32767), set(-32768)}},
		{"set r1 -1\nset r1 -10", []api.Ins{set(-1), set(-10)}},

		{"a:", nil},
		{"a:\nb:\n", nil},
		{"a:\njump a", []api.Ins{jump(0)}},
		{"jump a\na:", []api.Ins{jump(2)}},
		{"a:\nb:\nhalt\nc:\nd:\njump d\njump b\ne:\njump e", []api.Ins{halt, jump(2), jump(0), jump(6)}},
		{"x1y2z3w4:\nset r1 x1y2z3w4", []api.Ins{set(0)}},
		{"halt\na:\nload r1 r2 a\nsys a\nzero r3 a", []api.Ins{halt, {Op: api.Load, A: 1, B: 2, Imm: 2}, {Op: api.Sys, Imm: 2}, {Op: api.Zero, A: 3, Imm: 2}}},

		// Names of instructions and registers are labels' names, too.
		{"halt:\njump halt\nr1:\nset r1 r1", []api.Ins{jump(0), set(2)}},
		{"z:\nz9:\njump z9", []api.Ins{jump(0)}},
	}
	for _, c := range cases {
		if l, err := isa.Parse(c.text); !slices.Equal(l, c.want) || err != nil {
			t.Errorf("Parse(%q): %v, %v, want %v", c.text, l, err, c.want)
		}
	}
}

// B3: what is wrong with a line, and which error is told first.
func TestParseWrong(t *testing.T) {
	cases := []struct {
		text string
		want api.Errno
		at   int
	}{
		// Labels, ahead of all instructions.
		{":", api.ErrName, 0},
		{"1a:", api.ErrName, 0},
		{"A:", api.ErrName, 0},
		{"aB:", api.ErrName, 0},
		{"a_b:", api.ErrName, 0},
		{"a-b:", api.ErrName, 0},
		{"a::", api.ErrName, 0},
		{"é:", api.ErrName, 0},
		{"a\xff:", api.ErrName, 0},
		{"a\t:", api.ErrName, 0},
		{"abcdefghi:", api.ErrName, 0},
		{"a`:", api.ErrName, 0},
		{"a{:", api.ErrName, 0},
		{"a/:", api.ErrName, 0},
		{"foo\nbar\n1:", api.ErrName, 2},
		{"a:\na:", api.ErrTwice, 1},
		{"foo\na:\nbar\na:\n1:", api.ErrTwice, 3},
		{"foo\n1:\na:\na:", api.ErrName, 1},

		// The first word.
		{"\n", api.ErrCall, 0},
		{"\n\n", api.ErrCall, 0},
		{"halt\n\n", api.ErrCall, 1},
		{"halt\n\nhalt", api.ErrCall, 1},
		{"foo", api.ErrCall, 0},
		{"Halt", api.ErrCall, 0},
		{"halt\r\n", api.ErrCall, 0},
		{"hal", api.ErrCall, 0},
		{"halts", api.ErrCall, 0},
		{" halt", api.ErrCall, 0},
		{"set\tr1 1", api.ErrCall, 0},
		{"a: b", api.ErrCall, 0},
		{"a: ", api.ErrCall, 0},
		{" a:", api.ErrCall, 0},
		{"a:\nb:\nfoo", api.ErrCall, 2},

		// Parts that are not there.
		{"set", api.ErrShort, 0},
		{"set r1", api.ErrShort, 0},
		{"add r1", api.ErrShort, 0},
		{"load r1 r2", api.ErrShort, 0},
		{"jump", api.ErrShort, 0},
		{"a:\nhalt\nsys", api.ErrShort, 2},

		// Registers.
		{"set r8 1", api.ErrWord, 0},
		{"set r9", api.ErrWord, 0},
		{"set r/ 1", api.ErrWord, 0},
		{"set r 1", api.ErrWord, 0},
		{"set r01 1", api.ErrWord, 0},
		{"set r10 1", api.ErrWord, 0},
		{"set R1 1", api.ErrWord, 0},
		{"set 1 1", api.ErrWord, 0},
		{"set 11 1", api.ErrWord, 0},
		{"set r-1 1", api.ErrWord, 0},
		{"set  r1 1", api.ErrWord, 0},
		{"set ", api.ErrWord, 0},
		{"add r1 5", api.ErrWord, 0},
		{"add r1 r8", api.ErrWord, 0},
		{"r1:\nset x 1", api.ErrWord, 1},
		{"a:\nadd r1 a", api.ErrWord, 1},

		// Imm: a name that is no label's, no number, out of bounds.
		{"jump x", api.ErrName, 0},
		{"set r1 r2", api.ErrName, 0},
		{"jump abcdefgh", api.ErrName, 0},
		{"a:\njump ab", api.ErrName, 1},
		{"jump abcdefghi", api.ErrWord, 0},
		{"a:\njump a:", api.ErrWord, 1},
		{"a:\njump A", api.ErrWord, 1},
		{"jump ", api.ErrWord, 0},
		{"jump -", api.ErrWord, 0},
		{"jump --1", api.ErrWord, 0},
		{"jump +1", api.ErrWord, 0},
		{"jump -0", api.ErrWord, 0},
		{"jump -00", api.ErrWord, 0},
		{"jump 00", api.ErrWord, 0},
		{"jump 01", api.ErrWord, 0},
		{"jump -01", api.ErrWord, 0},
		{"jump 1a", api.ErrWord, 0},
		{"jump 0x1", api.ErrWord, 0},
		{"jump 1.5", api.ErrWord, 0},
		{"jump 1-", api.ErrWord, 0},
		{"jump 1/", api.ErrWord, 0},
		{"jump 1:", api.ErrWord, 0},
		{"jump 100000", api.ErrWord, 0},
		{"jump -100000", api.ErrWord, 0},
		{"jump 000001", api.ErrWord, 0},
		{"jump \u0661", api.ErrWord, 0},
		{"jump 1\xff", api.ErrWord, 0},
		{"jump 32768", api.ErrRange, 0},
		{"jump 99999", api.ErrRange, 0},
		{"jump -32769", api.ErrRange, 0},
		{"jump -99999", api.ErrRange, 0},

		// Words behind the last part.
		{"halt ", api.ErrWord, 0},
		{"halt 1", api.ErrWord, 0},
		{"add r1 r2 r3", api.ErrWord, 0},
		{"set r1 1 ", api.ErrWord, 0},
		{"jump 1 2", api.ErrWord, 0},
		{"jump 70000 2", api.ErrRange, 0},
		{"jump x 2", api.ErrName, 0},

		// Part by part, line by line.
		{"set r9 70000", api.ErrWord, 0},
		{"add r9", api.ErrWord, 0},
		{"halt\njump 70000\nfoo", api.ErrRange, 1},
		{"halt\nfoo\njump 70000", api.ErrCall, 1},
	}
	for _, c := range cases {
		if l, err := isa.Parse(c.text); len(l) != 0 || !isFault(err, c.want, c.at) {
			t.Errorf("Parse(%q): %v, %v, want error %d at %d", c.text, l, err, c.want, c.at)
		}
	}
}

// B3: as many lines as may be, and labels at their end; labels are not counted.
func TestParseManyLines(t *testing.T) {
	labels := ""
	for _, r := range "abcdefghijklmnopqrstuvwxyz" {
		labels += string(r) + ":\n"
	}
	l, err := isa.Parse(labels + strings.Repeat("jump end\n", 40) + "end:\n")
	if len(l) != 40 || err != nil {
		t.Fatalf("40 lines: %v, %v", l, err)
	}
	if want := (api.Ins{Op: api.Jump, Imm: 80}); l[0] != want || l[39] != want {
		t.Errorf("40 lines: %v, want 80 in each", l)
	}
}

// B3: too many lines: behind what labels say, ahead of what instructions say.
func TestParseTooManyLines(t *testing.T) {
	for _, text := range []string{strings.Repeat("halt\n", 41), strings.Repeat("foo\n", 41), strings.Repeat("\n", 41)} {
		if l, err := isa.Parse(text); len(l) != 0 || !isBare(err, api.ErrRange) {
			t.Errorf("Parse(%q): %v, %v, want ErrRange", text, l, err)
		}
	}
	if l, err := isa.Parse(strings.Repeat("foo\n", 41) + "1:"); len(l) != 0 || !isFault(err, api.ErrName, 41) {
		t.Errorf("41 lines and a wrong label: %v, %v, want ErrName at 41", l, err)
	}
}

// B3: the bound of a text's bytes, ahead of all else.
func TestParseLong(t *testing.T) {
	text := "jump 5" + strings.Repeat(" ", 3994)
	if l, err := isa.Parse(text); len(l) != 0 || !isFault(err, api.ErrWord, 0) {
		t.Errorf("4000 bytes: %v, %v, want ErrWord at 0", l, err)
	}
	for _, text := range []string{text + " ", "1:\n" + strings.Repeat("x", 3998)} {
		if l, err := isa.Parse(text); len(l) != 0 || !isBare(err, api.ErrRange) {
			t.Errorf("4001 bytes: %v, %v, want ErrRange", l, err)
		}
	}
}

// B2, B3: what Text writes Parse reads, instruction by instruction.
func TestParseText(t *testing.T) {
	for _, k := range known {
		for _, imm := range []int{-32768, -10000, -10, -1, 0, 1, 10, 9999, 10000, 32767} {
			for reg := range 8 {
				i := api.Ins{Op: k.op}
				if k.a {
					i.A = reg
				}
				if k.b {
					i.B = 7 - reg
				}
				if k.imm {
					i.Imm = imm
				}
				s, err := isa.Text([]api.Ins{i})
				if !strings.HasPrefix(s, k.name) || err != nil {
					t.Fatalf("Text(%v): %q, %v", i, s, err)
				}
				if l, err := isa.Parse(s); !slices.Equal(l, []api.Ins{i}) || err != nil {
					t.Fatalf("Parse(%q): %v, %v, want %v", s, l, err, i)
				}
			}
		}
	}
}
