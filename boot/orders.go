package boot

import (
	"keyhold/api"
	"keyhold/lines"
	"keyhold/plain"
)

// first is the name of the order with which a text begins.
const first = "world"

// order: how the words behind its name become numbers, and what is done with these.
type order struct {
	read func(words []string) ([]int, error)
	do   func(b *builder, n []int) error
}

// orders are all that a line can say, by their names.
func orders() map[string]order {
	return map[string]order{
		first:   {atLeast(3), (*builder).begin},
		"clay":  {just(3), (*builder).clay},
		"make":  {thing, (*builder).makeThings},
		"copy":  {just(4), (*builder).copyKey},
		"put":   {just(3), (*builder).put},
		"code":  {just(1), (*builder).code},
		"enter": {just(4), (*builder).enter},
		"equip": {just(7), (*builder).equip},
		"start": {just(1), (*builder).start},
	}
}

// just reads so many numbers.
func just(many int) func(words []string) ([]int, error) {
	return counted(func(n int) bool { return n == many })
}

// atLeast reads so many numbers, or more.
func atLeast(many int) func(words []string) ([]int, error) {
	return counted(func(n int) bool { return n >= many })
}

// counted: whether words are numbers is asked ahead of how many there are.
func counted(fits func(n int) bool) func(words []string) ([]int, error) {
	return func(words []string) ([]int, error) {
		l, err := numbers(words)
		if err != nil {
			return nil, err
		}
		if !fits(len(l)) {
			return nil, api.ErrShort
		}
		return l, nil
	}
}

// thing reads a kind's name, which becomes its number, and three numbers.
func thing(words []string) ([]int, error) {
	if len(words) != 4 {
		return nil, api.ErrShort
	}
	kind, ok := kinds()[words[0]]
	if !ok {
		return nil, api.ErrName
	}
	l, err := numbers(words[1:])
	if err != nil {
		return nil, err
	}
	return append([]int{kind}, l...), nil
}

// kinds of things that are made, by their names.
func kinds() map[string]int {
	return map[string]int{
		"page":  api.Page,
		"table": api.Table,
		"space": api.Space,
		"node":  api.Node,
		"task":  api.Task,
		"door":  api.Door,
		"bell":  api.Bell,
	}
}

func numbers(words []string) ([]int, error) { return lines.Numbers(words, number) }

// number: a dash stands where there is none.
func number(word string) (int, bool) {
	if word == "-" {
		return plain.None, true
	}
	return lines.Number(word)
}
