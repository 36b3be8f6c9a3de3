package boot

import (
	"slices"
	"strings"

	"keyhold/api"
	"keyhold/clay"
	"keyhold/deed"
	"keyhold/isa"
	"keyhold/plain"
	"keyhold/sched"
	"keyhold/tree"
	"keyhold/world"
)

// endOfCode is the line behind the last instruction.
const endOfCode = "."

// become: the world is what a layer made, unless that refused.
func (b *builder) become(w api.World, err error) error {
	if err == nil {
		b.World = w
	}
	return err
}

// begin: in a new world nothing could be done without a node; all else comes into its slots.
func (b *builder) begin(n []int) error {
	if err := b.become(world.New(n[0], n[1], n[2:])); err != nil {
		return err
	}
	b.Kinds[0] = api.Node
	b.Slots[0].Key = api.Key{Kind: api.Node, Len: 1, Rights: api.All}
	return nil
}

func (b *builder) clay(n []int) error {
	slot, base, length := n[0], n[1], n[2]
	if !plain.IsSlot(&b.World, slot) || base < 0 || length < 1 || base+length > len(b.Kinds) {
		return api.ErrRange
	}
	if !plain.Is(&b.World, slot/api.Words, api.Node) {
		return api.ErrKind
	}
	if plain.Full(&b.World, slot) == nil {
		return api.ErrTwice
	}
	for frame := base; frame < base+length; frame++ {
		if b.Kinds[frame] != api.None || b.isClay(frame) {
			return api.ErrBusy
		}
	}
	b.Slots[slot].Key = api.Key{Kind: api.Clay, Base: base, Len: length, Rights: api.All}
	return nil
}

// isClay: is a frame in some key's clay?
func (b *builder) isClay(frame int) bool {
	return slices.ContainsFunc(b.Slots, func(s api.Slot) bool {
		return s.Key.Kind == api.Clay && plain.Within(frame, s.Key.Base, s.Key.Base+s.Key.Len-1)
	})
}

func (b *builder) makeThings(n []int) error {
	kind, slot, many, to := n[0], n[1], n[2], n[3]
	return b.become(clay.Make(b.World, slot, kind, many, to))
}

func (b *builder) copyKey(n []int) error {
	return b.become(tree.Copy(b.World, n[0], n[1], n[2], n[3]))
}

func (b *builder) put(n []int) error {
	frame, at, v := n[0], n[1], n[2]
	if err := plain.Thing(&b.World, frame, api.Page); err != nil {
		return err
	}
	if !plain.Within(at, 0, api.Words-1) {
		return api.ErrRange
	}
	if !plain.IsWord(v) {
		return api.ErrWord
	}
	b.Ram[frame*api.Words+at] = v
	return nil
}

func (b *builder) code(n []int) error {
	text, ok := b.upToEnd()
	if !ok {
		return api.ErrShort
	}
	words, err := encoded(text)
	if err != nil {
		return err
	}
	return b.lay(n[0], words)
}

// upToEnd takes the lines up to the end of code; false: there is none. Each keeps its newline, so that an empty one stays a line.
func (b *builder) upToEnd() (string, bool) {
	many := slices.Index(b.lines[b.next:], endOfCode)
	if many < 0 {
		return "", false
	}
	var text strings.Builder
	for _, line := range b.lines[b.next : b.next+many] {
		text.WriteString(line)
		text.WriteByte('\n')
	}
	b.next += many + 1
	return text.String(), true
}

// encoded: instructions as words, two each.
func encoded(text string) ([]int, error) {
	l, err := isa.Parse(text)
	if err != nil {
		return nil, err
	}
	var words []int
	for _, i := range l {
		two, err := isa.Encode(i)
		if err != nil {
			return nil, err
		}
		words = append(words, two[:]...)
	}
	return words, nil
}

// lay: words may go on from page to page; of none it is not even asked whether there is such a frame.
func (b *builder) lay(frame int, words []int) error {
	for at := 0; at < len(words); at += api.Words {
		if !plain.Is(&b.World, frame+at/api.Words, api.Page) {
			return api.ErrKind
		}
	}
	for i, v := range words {
		b.Ram[frame*api.Words+i] = v
	}
	return nil
}

func (b *builder) enter(n []int) error {
	space, page, frame, write := n[0], n[1], n[2], n[3]
	if err := plain.Thing(&b.World, space, api.Space); err != nil {
		return err
	}
	if !plain.Within(page, 0, plain.MaxPage) || !plain.Within(write, 0, 1) || !plain.IsFrame(&b.World, frame) {
		return api.ErrRange
	}
	isTable := plain.Is(&b.World, frame, api.Table)
	if !isTable && !plain.Is(&b.World, frame, api.Page) {
		return api.ErrKind
	}
	// Whether something may be written is told of pages alone.
	return deed.Enter(&b.World, space, page, frame, write == 1 && !isTable)
}

func (b *builder) equip(n []int) error {
	task, node, space, helper := n[0], n[1], n[2], n[3]
	core, prio, dom := n[4], n[5], n[6]
	if err := b.fit(task, node, space, helper); err != nil {
		return err
	}
	if !plain.IsCore(&b.World, core) || !plain.Within(prio, 0, api.MaxPrio-1) || !plain.Within(dom, 0, plain.MaxDom) {
		return api.ErrRange
	}
	r := &b.Tasks[task]
	if r.State != api.Still {
		return api.ErrBusy
	}
	r.Node, r.Space, r.Helper = node, space, helper
	r.Core, r.Prio, r.Dom = core, prio, dom
	return nil
}

// fit: is it a task, and is what it gets of the kinds it can have?
func (b *builder) fit(task, node, space, helper int) error {
	if err := plain.Thing(&b.World, task, api.Task); err != nil {
		return err
	}
	if err := b.thingOrNone(node, api.Node); err != nil {
		return err
	}
	if err := b.thingOrNone(space, api.Space); err != nil {
		return err
	}
	return b.thingOrNone(helper, api.Door)
}

func (b *builder) thingOrNone(frame, kind int) error {
	if frame == plain.None {
		return nil
	}
	return plain.Thing(&b.World, frame, kind)
}

func (b *builder) start(n []int) error { return b.become(sched.Start(b.World, n[0])) }
