// Package isa: instructions, as words and as text: see the document's chapter.
package isa

import (
	"strconv"
	"strings"

	"keyhold/api"
)

// Bounds of an instruction's parts.
const (
	lastReg = 7
	minImm  = -32768
	maxImm  = 32767
)

// names stand at the numbers of their instructions.
var names = [api.Ops]string{
	api.Halt:  "halt",
	api.Set:   "set",
	api.Mov:   "mov",
	api.Add:   "add",
	api.Sub:   "sub",
	api.Mul:   "mul",
	api.And:   "and",
	api.Or:    "or",
	api.Xor:   "xor",
	api.Less:  "less",
	api.Load:  "load",
	api.Store: "store",
	api.Jump:  "jump",
	api.Zero:  "zero",
	api.Sys:   "sys",
}

// shape: which parts an instruction has.
type shape struct {
	a, b, imm bool
}

func shapeOf(op int) shape {
	switch op {
	case api.Halt:
		return shape{}
	case api.Set, api.Zero:
		return shape{a: true, imm: true}
	case api.Load, api.Store:
		return shape{a: true, b: true, imm: true}
	case api.Jump, api.Sys:
		return shape{imm: true}
	}
	return shape{a: true, b: true}
}

// Check says whether an instruction may be.
func Check(i api.Ins) error {
	if i.Op < api.Halt || i.Op >= api.Ops {
		return api.ErrWord
	}
	has := shapeOf(i.Op)
	if !fits(i.A, has.a, 0, lastReg) || !fits(i.B, has.b, 0, lastReg) || !fits(i.Imm, has.imm, minImm, maxImm) {
		return api.ErrRange
	}
	return nil
}

// fits: a part that an instruction has not must be 0, so that each has one code.
func fits(v int, has bool, least, most int) bool {
	if !has {
		return v == 0
	}
	return least <= v && v <= most
}

// Encode is an instruction as two words.
func Encode(i api.Ins) ([2]int, error) {
	if err := Check(i); err != nil {
		return [2]int{}, err
	}
	imm := i.Imm
	if imm < 0 {
		imm += api.MaxWord + 1
	}
	return [2]int{i.Op*256 + i.A*16 + i.B, imm}, nil
}

// Decode is the instruction of two words.
func Decode(w [2]int) (api.Ins, error) {
	i := api.Ins{Op: w[0] / 256, A: w[0] / 16 % 16, B: w[0] % 16, Imm: w[1]}
	if i.Imm > maxImm {
		i.Imm -= api.MaxWord + 1
	}
	// Numbers that are no words can look like an instruction, too; its code tells them apart.
	if code, err := Encode(i); err != nil || code != w {
		return api.Ins{}, api.ErrWord
	}
	return i, nil
}

// Text writes instructions, line by line.
func Text(l []api.Ins) (string, error) {
	if len(l) > api.MaxLine {
		return "", api.ErrRange
	}
	var b strings.Builder
	for n, i := range l {
		if err := Check(i); err != nil {
			return "", &api.Fault{At: n, Err: err}
		}
		b.WriteString(textOf(i))
		b.WriteByte('\n')
	}
	return b.String(), nil
}

func textOf(i api.Ins) string {
	has := shapeOf(i.Op)
	s := names[i.Op]
	if has.a {
		s += " r" + strconv.Itoa(i.A)
	}
	if has.b {
		s += " r" + strconv.Itoa(i.B)
	}
	if has.imm {
		s += " " + strconv.Itoa(i.Imm)
	}
	return s
}
