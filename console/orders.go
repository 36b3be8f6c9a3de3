package console

import (
	"strconv"

	"keyhold/api"
	"keyhold/clay"
	"keyhold/kernel"
	"keyhold/parts"
	"keyhold/plain"
	"keyhold/tree"
	"keyhold/word"
)

// maxRun: a line runs no more steps.
const maxRun = 40

// order: how many numbers it has, and what is done with these.
type order struct {
	least, most int
	do          func(d *desk, n []int) error
}

// takes: can so many words stand behind its name?
func (o order) takes(many int) bool { return plain.Within(many, o.least, o.most) }

// orders are all that a line can say, by their names.
func orders() map[string]order {
	return map[string]order{
		"time":   {0, 0, (*desk).time},
		"frames": {0, 0, (*desk).frames},
		"cores":  {0, 0, (*desk).cores},
		"slot":   {1, 1, (*desk).slot},
		"ram":    {1, 1, (*desk).ram},
		"task":   {1, 1, (*desk).task},
		"step":   {1, 1, (*desk).step},
		"run":    {1, maxRun, (*desk).run},
		"call":   {2, 2, (*desk).call},
		"copy":   {4, 4, (*desk).copyKey},
		"move":   {2, 2, (*desk).move},
		"drop":   {1, 1, (*desk).drop},
		"revoke": {1, 1, (*desk).revoke},
		"make":   {4, 4, (*desk).makeThings},
		"under":  {1, 1, (*desk).under},
		"parts":  {0, 0, (*desk).parts},
	}
}

func (d *desk) time(_ []int) error {
	d.tell(d.world.Time)
	return nil
}

func (d *desk) frames(_ []int) error {
	d.tell(d.world.Kinds...)
	return nil
}

func (d *desk) cores(_ []int) error {
	d.tell(d.world.Cores...)
	return nil
}

func (d *desk) slot(n []int) error {
	if !plain.IsSlot(&d.world, n[0]) {
		return api.ErrRange
	}
	s := d.world.Slots[n[0]]
	packed, err := word.Pack(s.Key)
	if err != nil {
		return err
	}
	d.tell(s.Key.Kind)
	d.WriteString(" " + strconv.FormatUint(packed, 16) + " ")
	d.tell(s.From)
	return nil
}

func (d *desk) ram(n []int) error {
	frame := n[0]
	if !plain.IsFrame(&d.world, frame) {
		return api.ErrRange
	}
	text, err := word.Hex(d.world.Ram[frame*api.Words : (frame+1)*api.Words])
	if err != nil {
		return err
	}
	d.WriteString(text)
	return nil
}

func (d *desk) task(n []int) error {
	if err := plain.Thing(&d.world, n[0], api.Task); err != nil {
		return err
	}
	r := d.world.Tasks[n[0]]
	d.tell(append([]int{r.State, r.Prio, r.Pc}, r.Regs[:]...)...)
	return nil
}

func (d *desk) step(n []int) error { return d.become(kernel.Step(d.world, n[0])) }

func (d *desk) run(n []int) error { return d.become(kernel.Run(d.world, n)) }

func (d *desk) call(n []int) error { return d.become(kernel.Call(d.world, n[0], n[1])) }

func (d *desk) copyKey(n []int) error {
	return d.become(tree.Copy(d.world, n[0], n[1], n[2], n[3]))
}

func (d *desk) move(n []int) error { return d.become(tree.Move(d.world, n[0], n[1])) }

func (d *desk) drop(n []int) error { return d.become(tree.Drop(d.world, n[0])) }

func (d *desk) revoke(n []int) error { return d.become(tree.Revoke(d.world, n[0])) }

func (d *desk) makeThings(n []int) error {
	return d.become(clay.Make(d.world, n[0], n[1], n[2], n[3]))
}

func (d *desk) under(n []int) error { return d.list(tree.Under(d.world, n[0])) }

func (d *desk) parts(_ []int) error { return d.list(parts.Of(d.world)) }

// list tells what a layer answered, unless that refused.
func (d *desk) list(numbers []int, err error) error {
	if err != nil {
		return err
	}
	d.tell(numbers...)
	return nil
}

// become: the world is what a layer made, unless that refused.
func (d *desk) become(w api.World, err error) error {
	if err != nil {
		return err
	}
	d.world = w
	d.WriteString(done)
	return nil
}
