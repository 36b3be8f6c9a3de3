package isa

import (
	"strings"

	"keyhold/api"
	"keyhold/lines"
)

// maxName: a label has no more letters and digits.
const maxName = 8

// Parse reads instructions, with labels.
func Parse(text string) ([]api.Ins, error) {
	if len(text) > api.MaxText {
		return nil, api.ErrRange
	}
	all := lines.Of(text)
	labels, others, err := findLabels(all)
	if err != nil {
		return nil, err
	}
	if others > api.MaxLine {
		return nil, api.ErrRange
	}
	var l []api.Ins
	for n, line := range all {
		if isLabel(line) {
			continue
		}
		i, err := parseLine(line, labels)
		if err != nil {
			return nil, &api.Fault{At: n, Err: err}
		}
		l = append(l, i)
	}
	return l, nil
}

// findLabels tells for what each label stands, and how many lines are none.
func findLabels(all []string) (map[string]int, int, error) {
	labels := map[string]int{}
	others := 0
	for n, line := range all {
		if !isLabel(line) {
			others++
			continue
		}
		name := strings.TrimSuffix(line, ":")
		if !isName(name) {
			return nil, 0, &api.Fault{At: n, Err: api.ErrName}
		}
		if _, ok := labels[name]; ok {
			return nil, 0, &api.Fault{At: n, Err: api.ErrTwice}
		}
		labels[name] = 2 * others
	}
	return labels, others, nil
}

func isLabel(line string) bool {
	return strings.HasSuffix(line, ":") && !strings.Contains(line, " ")
}

func isName(s string) bool {
	if s == "" || len(s) > maxName {
		return false
	}
	for at, r := range s {
		letter := 'a' <= r && r <= 'z'
		if !letter && (at == 0 || !lines.IsDigit(r)) {
			return false
		}
	}
	return true
}

// wordsOf hands out the words of a line one by one; false: none is left.
func wordsOf(line string) func() (string, bool) {
	rest, more := line, true
	return func() (string, bool) {
		if !more {
			return "", false
		}
		var w string
		w, rest, more = strings.Cut(rest, " ")
		return w, true
	}
}

func parseLine(line string, labels map[string]int) (api.Ins, error) {
	next := wordsOf(line)
	name, _ := next()
	op, ok := opOf(name)
	if !ok {
		return api.Ins{}, api.ErrCall
	}
	i := api.Ins{Op: op}
	if err := parseParts(&i, next, labels); err != nil {
		return api.Ins{}, err
	}
	if _, left := next(); left {
		return api.Ins{}, api.ErrWord
	}
	return i, nil
}

func opOf(name string) (int, bool) {
	for op, s := range names {
		if s == name {
			return op, true
		}
	}
	return 0, false
}

func parseParts(i *api.Ins, next func() (string, bool), labels map[string]int) error {
	has := shapeOf(i.Op)
	var err error
	if has.a {
		if i.A, err = parseReg(next()); err != nil {
			return err
		}
	}
	if has.b {
		if i.B, err = parseReg(next()); err != nil {
			return err
		}
	}
	if has.imm {
		w, ok := next()
		if i.Imm, err = parseImm(w, ok, labels); err != nil {
			return err
		}
	}
	return nil
}

func parseReg(w string, ok bool) (int, error) {
	if !ok {
		return 0, api.ErrShort
	}
	if len(w) != 2 || w[0] != 'r' || w[1] < '0' || w[1] > '0'+lastReg {
		return 0, api.ErrWord
	}
	return int(w[1] - '0'), nil
}

func parseImm(w string, ok bool, labels map[string]int) (int, error) {
	if !ok {
		return 0, api.ErrShort
	}
	if v, ok := labels[w]; ok {
		return v, nil
	}
	if isName(w) {
		return 0, api.ErrName
	}
	v, ok := readNumber(w)
	if !ok {
		return 0, api.ErrWord
	}
	if v < minImm || v > maxImm {
		return 0, api.ErrRange
	}
	return v, nil
}

// readNumber: each number has one text: no nought below nought either.
func readNumber(w string) (int, bool) {
	digits, below := strings.CutPrefix(w, "-")
	v, ok := lines.Number(digits)
	if !ok || below && v == 0 {
		return 0, false
	}
	if below {
		v = -v
	}
	return v, true
}
