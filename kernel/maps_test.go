package kernel_test

import (
	"fmt"
	"testing"

	"keyhold/api"
	"keyhold/sample"
)

// spare: a table (frame 18) and a space (frame 19) are there, too, their keys at addresses 40 and 41.
func spare(w *api.World) {
	w.Slots[1].Key.Mark = 19
	w.Kinds[18], w.Slots[24] = api.Table, sample.Key(api.Table, 18, 7, 0, 1)
	w.Kinds[19], w.Slots[25] = api.Space, sample.Key(api.Space, 19, 7, 0, 1)
}

// K2, 12: a table is told by the space's entry of register 3 by 16, if that is 0.
func TestEnterTable(t *testing.T) {
	for _, n := range []int{16, 17, 31, 32, 240, 255} {
		answered(t, fmt.Sprint("a table at ", n), 12, both(spare, with(40, 3, n)), func(w *api.World) { w.Ram[16*space+n/16] = 0x8012 })
	}
	answered(t, "a table that is told elsewhere, too", 12, with(4, 3, 80), func(w *api.World) { w.Ram[16*space+5] = 0x8003 })
	answered(t, "in another space", 12, both(spare, with(4, 41, 0)), func(w *api.World) { w.Ram[16*19] = 0x8003 })
	answered(t, "by a key with nothing but Write", 12, func(w *api.World) {
		spare(w)
		w.Slots[31] = sample.Key(api.Table, 18, api.Write, 0, 24)
		with(47, 3, 255)(w)
	}, func(w *api.World) { w.Ram[16*space+15] = 0x8012 })
	for _, n := range []int{0, 1, 15} {
		wrong(t, fmt.Sprint("a table where one is, at ", n), 12, both(spare, with(40, 3, n)), api.ErrTwice)
		wrong(t, fmt.Sprint("the table that is there, at ", n), 12, with(4, 3, n), api.ErrTwice)
	}
	for rights := range 8 {
		first := func(w *api.World) {
			spare(w)
			w.Slots[31] = sample.Key(api.Table, 18, rights, 0, 24)
			with(47, 3, 0)(w)
		}
		want := api.ErrKind // it is no page's
		if rights&api.Write != 0 {
			want = api.ErrTwice
		}
		wrong(t, fmt.Sprint("a table with rights ", rights), 12, first, want)
	}
}

// K2, 12: a page is told by the entry of register 3 modulo 16 of the table there, if that is 0; to be written, if the key may be.
func TestEnterPage(t *testing.T) {
	for _, n := range []int{2, 3, 15} {
		answered(t, fmt.Sprint("a page at ", n), 12, with(6, 3, n), func(w *api.World) { w.Ram[16*table+n] = 0xc005 })
		answered(t, fmt.Sprint("a page to be read at ", n), 12, with(38, 3, n), func(w *api.World) { w.Ram[16*table+n] = 0x8004 })
	}
	answered(t, "in the last table of a space", 12, func(w *api.World) {
		spare(w)
		w.Ram[16*19+15] = 0x8012
		with(5, 41, 255)(w)
	}, func(w *api.World) { w.Ram[16*18+15] = 0xc004 })
	for rights := range 8 {
		first := func(w *api.World) {
			w.Slots[31] = sample.Key(api.Page, page2, rights, 0, 6)
			with(47, 3, 2)(w)
		}
		if rights&api.Read == 0 {
			wrong(t, fmt.Sprint("a page with rights ", rights), 12, first, api.ErrRight)
			continue
		}
		answered(t, fmt.Sprint("a page with rights ", rights), 12, first, func(w *api.World) {
			if w.Ram[16*table+2] = 0x8005; rights&api.Write != 0 {
				w.Ram[16*table+2] = 0xc005
			}
		})
	}
	wrong(t, "where a page is", 12, with(6, 3, 0), api.ErrTwice)
	wrong(t, "where the same page is", 12, with(6, 3, 1), api.ErrTwice)
	for _, n := range []int{16, 17, 255} {
		wrong(t, fmt.Sprint("where no table is, at ", n), 12, with(6, 3, n), api.ErrMap)
	}
	wrong(t, "where no table is in another space", 12, both(spare, with(6, 41, 2)), api.ErrMap)
}

// K2, 12: a space's key with Write, then the page's number, then what stands at register 1; in this order.
func TestEnterOrder(t *testing.T) {
	for _, n := range []int{256, 257, 4096, 65535} {
		wrong(t, fmt.Sprint("page ", n), 12, with(6, 3, n), api.ErrRange)
		wrong(t, fmt.Sprint("table at page ", n), 12, with(4, 3, n), api.ErrRange)
		wrong(t, fmt.Sprint("nothing at page ", n), 12, with(40, 3, n), api.ErrRange)
		wrong(t, fmt.Sprint("of no space, page ", n), 12, with(40, 4, n), api.ErrKind)
	}
	wrong(t, "nothing", 12, with(40, 3, 0), api.ErrEmpty)
	wrong(t, "neither page nor table", 12, with(15, 3, 0), api.ErrKind)
	wrong(t, "no address", 12, with(256, 3, 0), api.ErrRange)
	wrong(t, "no space, and nothing", 12, with(256, 40, 0), api.ErrEmpty)
}

// K2, 13: the page's entry is 0; whoever remembers it forgets it.
func TestRemove(t *testing.T) {
	answered(t, "the first page", 13, with(98, 3, 0), func(w *api.World) {
		w.Ram[16*table] = 0
		w.Tlbs[0] = w.Tlbs[0][1:]
	})
	answered(t, "a page that both cores remember", 13, with(98, 3, 1), func(w *api.World) {
		w.Ram[16*table+1] = 0
		w.Tlbs[0], w.Tlbs[1] = w.Tlbs[0][:1], nil
	})
	answered(t, "a page that nobody remembers", 13, func(w *api.World) {
		w.Ram[16*table+15] = 0x8005
		with(65535, 3, 15)(w)
	}, func(w *api.World) { w.Ram[16*table+15] = 0 })
	answered(t, "the last page of a space", 13, func(w *api.World) {
		spare(w)
		w.Ram[16*19+15], w.Ram[16*18+15] = 0x8012, 0xc004
		w.Tlbs[1] = append(w.Tlbs[1], api.Entry{Space: 19, Page: 255, Frame: page, Write: true})
		with(98, 41, 255)(w)
	}, func(w *api.World) {
		w.Ram[16*18+15] = 0
		w.Tlbs[1] = w.Tlbs[1][:1]
	})
	answered(t, "a page of a table that serves twice", 13, func(w *api.World) {
		spare(w)
		w.Ram[16*space+3], w.Ram[16*19] = 0x8003, 0x8003
		w.Tlbs[1] = []api.Entry{
			{Space: space, Page: 49, Frame: page2, Write: true}, {Space: 19, Page: 1, Frame: page2, Write: true}, {Space: 19, Page: 0, Frame: page},
		}
		with(98, 3, 1)(w)
	}, func(w *api.World) {
		w.Ram[16*table+1] = 0
		w.Tlbs[0], w.Tlbs[1] = w.Tlbs[0][:1], w.Tlbs[1][2:]
	})
	for _, n := range []int{2, 15, 16, 17, 255} {
		wrong(t, fmt.Sprint("where nothing is, at ", n), 13, with(98, 3, n), api.ErrMap)
	}
	for _, n := range []int{256, 257, 65535} {
		wrong(t, fmt.Sprint("page ", n), 13, with(98, 3, n), api.ErrRange)
		wrong(t, fmt.Sprint("of no space, page ", n), 13, with(98, 4, n), api.ErrKind)
	}
}

// equips: registers 1 to 5 with which task still gets all it can have.
func equips(more change) change {
	return func(w *api.World) {
		spare(w)
		with(14, 2, 41, 15, 65535)(w)
		more(w)
	}
}

// equipped: task still has these.
func equipped(node, space, helper, pc, dom int) change {
	return func(w *api.World) {
		r := &w.Tasks[still]
		r.Node, r.Space, r.Helper, r.Pc, r.Dom = node, space, helper, pc, dom
	}
}

// K2, 14: a task that is Still has this node, space and helper, stands at register 5, and is of the asker's domain; all else of it stays.
func TestEquip(t *testing.T) {
	answered(t, "all", 14, equips(asItIs), equipped(node, 19, door, 65535, 1))
	answered(t, "others", 14, equips(with(14, 0, 3, 32, 0)), equipped(root, space, desk, 0, 1))
	answered(t, "no helper", 14, equips(func(w *api.World) {
		w.Tasks[still].Helper = desk
		with(14, 2, 3, 65535, 7)(w)
	}), equipped(node, space, -1, 7, 1))
	for dom := range 4 {
		done(t, fmt.Sprint("of domain ", dom), placed(equips(func(w *api.World) { w.Tasks[runs].Dom = dom })), calling(0, 14),
			both(equipped(node, 19, door, 65535, dom), func(w *api.World) { w.Tasks[runs].Regs[0] = 0 }))
	}
	answered(t, "one with registers, who owes", 14, equips(func(w *api.World) {
		r := &w.Tasks[still]
		r.Regs, r.Word, r.Badge, r.Owes, r.Dom = [8]int{1, 2, 3, 4, 5, 6, 7, 8}, 9, 10, asks, 2
		w.Tasks[runs].Owes = -1
	}), equipped(node, 19, door, 65535, 1))
	for task := runs; task < still; task++ {
		wrong(t, fmt.Sprint("task ", task), 14, equips(with(task+1)), api.ErrBusy)
	}
	wrong(t, "65534 as a helper", 14, equips(with(14, 2, 41, 65534)), api.ErrRange)
	wrong(t, "65535 as a node", 14, equips(with(14, 65535)), api.ErrRange)
	wrong(t, "65535 as a space", 14, equips(with(14, 2, 65535)), api.ErrRange)
}

// K2, 14: which of several things that are wrong is told, and that no part is done ahead of it.
func TestEquipOrder(t *testing.T) {
	const empty, other, none = 46, 1, 256 // nothing, clay, no address
	wrong(t, "no task, and all else", 14, equips(with(empty, other, other, other)), api.ErrEmpty)
	wrong(t, "busy, and all else", 14, equips(with(8, empty, other, none)), api.ErrBusy)
	wrong(t, "no node, and all behind it", 14, equips(with(14, empty, other, none)), api.ErrEmpty)
	wrong(t, "no space, and no helper", 14, equips(with(14, 2, other, none)), api.ErrKind)
	wrong(t, "no helper", 14, equips(with(14, 2, 3, none)), api.ErrRange)
	wrong(t, "no space, and none for a helper", 14, equips(with(14, 2, empty, 65535)), api.ErrEmpty)
}

// demand: of a call the key that a register is the address of.
type demand struct {
	call, register, kind, rights int
	from                         int // the slot of such a key with all rights
	first                        change
}

// demands are those of all calls, beside registers with which nothing is wrong.
func demands() []demand {
	return []demand{
		{1, 1, api.Door, api.Write, 15, with(15)},
		{2, 1, api.Door, api.Write | api.Grant, 15, with(15)},
		{3, 1, api.Door, api.Read, 15, both(free, with(15))},
		{5, 1, api.Bell, api.Write, 17, with(33)},
		{6, 1, api.Bell, api.Read, 17, with(33)},
		{12, 1, api.Page, api.Read, 6, with(6, 3, 2)},
		{12, 2, api.Space, api.Write, 3, with(6, 3, 2)},
		{13, 2, api.Space, api.Write, 3, with(6, 3, 1)},
		{14, 1, api.Task, api.Write, 14, equips(asItIs)},
		{14, 2, api.Node, api.Grant, 2, equips(asItIs)},
		{14, 3, api.Space, api.Grant, 3, equips(asItIs)},
		{14, 4, api.Door, api.Write | api.Grant, 15, equips(asItIs)},
		{15, 1, api.Task, api.Write, 14, with(14)},
		{16, 1, api.Task, api.Write, 14, with(14)},
		{17, 1, api.Task, api.Write, 14, with(14, 0)},
	}
}

// but: one register of task runs is another one.
func (d demand) but(v int, more change) change {
	return both(d.first, func(w *api.World) {
		w.Tasks[runs].Regs[d.register] = v
		more(w)
	})
}

// K2: each key is one of Get: in its Node, of its kind, with its rights.
func TestDemands(t *testing.T) {
	for _, d := range demands() {
		why := fmt.Sprint("register ", d.register)
		for rights := range 8 {
			first := d.but(47, func(w *api.World) { w.Slots[31] = sample.Key(d.kind, w.Slots[d.from].Key.Base, rights, 0, d.from) })
			if d.rights&^rights != 0 {
				wrong(t, fmt.Sprint(why, ", rights ", rights), d.call, first, api.ErrRight)
				continue
			}
			begin := full()
			placed(first)(&begin)
			got, err := calling(0, d.call)(begin)
			if err != nil || got.Tasks[runs].Regs[0] != 0 {
				t.Errorf("%s, rights %d: call %d: %v, error %d", why, rights, d.call, err, got.Tasks[runs].Regs[0])
			}
		}
		wrong(t, why+", empty", d.call, d.but(46, asItIs), api.ErrEmpty)
		wrong(t, why+", no address", d.call, d.but(256, asItIs), api.ErrRange)
		wrong(t, why+", far from any address", d.call, d.but(65534, asItIs), api.ErrRange)
		wrong(t, why+", in no node", d.call, d.but(16, asItIs), api.ErrKind)
		wrong(t, why+", without a node", d.call, d.but(0, func(w *api.World) { w.Tasks[runs].Node = -1 }), api.ErrKind)
		for slot, kind := range map[int]int{0: api.Node, 1: api.Clay, 3: api.Space, 5: api.Page, 14: api.Task, 15: api.Door, 33: api.Bell} {
			if kind != d.kind {
				wrong(t, fmt.Sprint(why, ", kind ", kind), d.call, d.but(slot, asItIs), api.ErrKind)
			}
		}
	}
}

// K2: calls 7 to 11 ask Find for slots, register 1 ahead of register 2.
func TestSlots(t *testing.T) {
	const empty, no, none = 46, 16, 256 // nothing, in no node, no address
	for n, many := range map[int]int{7: 2, 8: 2, 9: 2, 10: 1, 11: 1} {
		wrong(t, "no address", n, with(none, none, 2, 1), api.ErrRange)
		wrong(t, "in no node", n, with(no, none, 2, 1), api.ErrKind)
		wrong(t, "nothing", n, with(empty, 45, 2, 1), api.ErrEmpty)
		wrong(t, "without a node", n, func(w *api.World) {
			w.Tasks[runs].Node = -1
			with(none, none, 2, 1)(w)
		}, api.ErrKind)
		if many == 2 {
			wrong(t, "to no address", n, with(empty, none, 2, 1), api.ErrRange)
			wrong(t, "to no node", n, with(empty, no, 2, 1), api.ErrKind)
			wrong(t, "from no address, to no node", n, with(none, no, 2, 1), api.ErrRange)
		}
	}
	wrong(t, "by a slot that is empty", 10, func(w *api.World) {
		w.Tasks[runs].Node = node
		with(16 * 8)(w)
	}, api.ErrKind)
	answered(t, "in its own node", 10, func(w *api.World) {
		w.Tasks[runs].Node = node
		with(4)(w)
	}, func(w *api.World) { w.Slots[20], w.Slots[21].From = api.Slot{From: -1}, 15 })
	answered(t, "by a node in its own one", 10, func(w *api.World) {
		w.Tasks[runs].Node = node
		w.Slots[31] = sample.Key(api.Node, root, 0, 0, 0)
		with(255)(w)
	}, func(w *api.World) {
		w.Slots[15], w.Slots[20].From = api.Slot{From: -1}, 1
	})
}
