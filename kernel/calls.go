package kernel

import (
	"errors"

	"keyhold/api"
	"keyhold/clay"
	"keyhold/deed"
	"keyhold/mail"
	"keyhold/plain"
	"keyhold/sched"
	"keyhold/slots"
	"keyhold/tree"
)

// noHelper stands in a register where the address of a door's key could.
const noHelper = api.MaxWord

// ask: the task asks for something, and has in register 0 what was wrong, unless it is gone by what it asked for.
func (m *machine) ask(n int) {
	m.regs = m.Tasks[m.task].Regs
	err := m.answerTo(n)
	if plain.Is(&m.World, m.task, api.Task) {
		m.Tasks[m.task].Regs[0] = number(err)
	}
}

// number of an error, as registers have it.
func number(err error) int {
	var what api.Errno
	if errors.As(err, &what) {
		return int(what)
	}
	return int(api.OK)
}

// answerTo does what is asked for by a number.
func (m *machine) answerTo(n int) error {
	all := calls()
	if !plain.Within(n, 0, len(all)-1) {
		return api.ErrCall
	}
	return all[n](m)
}

// calls are all that a task can ask for, by their numbers.
func calls() []func(m *machine) error {
	return []func(m *machine) error{
		(*machine).yield,
		(*machine).send,
		(*machine).call,
		(*machine).take,
		(*machine).answer,
		(*machine).ring,
		(*machine).listen,
		(*machine).makeThings,
		(*machine).copyKey,
		(*machine).moveKey,
		(*machine).dropKey,
		(*machine).revokeKeys,
		(*machine).enter,
		(*machine).remove,
		(*machine).equip,
		(*machine).start,
		(*machine).stop,
		(*machine).rank,
	}
}

// key is the one at the address in a register, of a kind, with such rights.
func (m *machine) key(register, kind, rights int) (api.Key, error) {
	return slots.Get(m.World, m.Tasks[m.task].Node, m.regs[register], kind, rights)
}

// slot is the one at the address in a register.
func (m *machine) slot(register int) (int, error) {
	return slots.Find(m.World, m.Tasks[m.task].Node, m.regs[register])
}

// between: something is done with the slots at registers 1 and 2.
func (m *machine) between(do func(from, to int) (api.World, error)) error {
	from, err := m.slot(1)
	if err != nil {
		return err
	}
	to, err := m.slot(2)
	if err != nil {
		return err
	}
	return m.become(do(from, to))
}

// with: something is done with what the key at register 1 opens.
func (m *machine) with(kind, rights int, do func(k api.Key) (api.World, error)) error {
	k, err := m.key(1, kind, rights)
	if err != nil {
		return err
	}
	return m.become(do(k))
}

func (m *machine) yield() error {
	deed.Wake(&m.World, m.task)
	return nil
}

func (m *machine) send() error { return m.post(api.Write, false) }

// call: who is called can answer, which is more than a word through a door: it wants a right more.
func (m *machine) call() error { return m.post(api.Write|api.Grant, true) }

func (m *machine) post(rights int, call bool) error {
	return m.with(api.Door, rights, func(k api.Key) (api.World, error) {
		return mail.Send(m.World, m.task, k.Base, k.Badge, m.regs[2], call)
	})
}

func (m *machine) take() error {
	return m.with(api.Door, api.Read, func(k api.Key) (api.World, error) {
		return mail.Take(m.World, m.task, k.Base)
	})
}

func (m *machine) answer() error { return m.become(mail.Answer(m.World, m.task, m.regs[2])) }

// ring: a key without a badge rings, too: it would be heard by nobody with 0.
func (m *machine) ring() error {
	return m.with(api.Bell, api.Write, func(k api.Key) (api.World, error) {
		return mail.Ring(m.World, k.Base, max(k.Badge, 1))
	})
}

func (m *machine) listen() error {
	return m.with(api.Bell, api.Read, func(k api.Key) (api.World, error) {
		return mail.Listen(m.World, m.task, k.Base)
	})
}

func (m *machine) makeThings() error {
	return m.between(func(from, to int) (api.World, error) {
		return clay.Make(m.World, from, m.regs[3], m.regs[4], to)
	})
}

func (m *machine) copyKey() error {
	return m.between(func(from, to int) (api.World, error) {
		return tree.Copy(m.World, from, to, m.regs[3], m.regs[4])
	})
}

func (m *machine) moveKey() error {
	return m.between(func(from, to int) (api.World, error) { return tree.Move(m.World, from, to) })
}

func (m *machine) dropKey() error { return m.taken(tree.Drop) }

func (m *machine) revokeKeys() error { return m.taken(tree.Revoke) }

// taken: something is done with the slot at register 1.
func (m *machine) taken(take func(w api.World, slot int) (api.World, error)) error {
	slot, err := m.slot(1)
	if err != nil {
		return err
	}
	return m.become(take(m.World, slot))
}

// page is the space of the key at register 2, and the page of it in register 3.
func (m *machine) page() (space, page int, err error) {
	k, err := m.key(2, api.Space, api.Write)
	if err != nil {
		return 0, 0, err
	}
	if m.regs[3] > plain.MaxPage {
		return 0, 0, api.ErrRange
	}
	return k.Base, m.regs[3], nil
}

func (m *machine) enter() error {
	space, page, err := m.page()
	if err != nil {
		return err
	}
	if k, err := m.key(1, api.Table, api.Write); err == nil {
		return deed.Enter(&m.World, space, page, k.Base, false)
	}
	k, err := m.key(1, api.Page, api.Read)
	if err != nil {
		return err
	}
	return deed.Enter(&m.World, space, page, k.Base, k.Rights&api.Write != 0)
}

func (m *machine) remove() error {
	space, page, err := m.page()
	if err != nil {
		return err
	}
	return deed.Remove(&m.World, space, page)
}

// equip: all that a task is to have is asked for ahead of what it gets.
func (m *machine) equip() error {
	k, err := m.key(1, api.Task, api.Write)
	if err != nil {
		return err
	}
	r := &m.Tasks[k.Base]
	if r.State != api.Still {
		return api.ErrBusy
	}
	node, err := m.key(2, api.Node, api.Grant)
	if err != nil {
		return err
	}
	space, err := m.key(3, api.Space, api.Grant)
	if err != nil {
		return err
	}
	helper, err := m.helper()
	if err != nil {
		return err
	}
	r.Node, r.Space, r.Helper = node.Base, space.Base, helper
	r.Pc, r.Dom = m.regs[5], m.Tasks[m.task].Dom
	return nil
}

// helper is the door whose key is at register 4 (None, if there shall be none).
func (m *machine) helper() (int, error) {
	if m.regs[4] == noHelper {
		return plain.None, nil
	}
	k, err := m.key(4, api.Door, api.Write|api.Grant)
	return k.Base, err
}

func (m *machine) start() error {
	return m.with(api.Task, api.Write, func(k api.Key) (api.World, error) { return sched.Start(m.World, k.Base) })
}

func (m *machine) stop() error {
	return m.with(api.Task, api.Write, func(k api.Key) (api.World, error) { return sched.Stop(m.World, k.Base) })
}

// rank: nobody is ranked above who asks for it.
func (m *machine) rank() error {
	return m.with(api.Task, api.Write, func(k api.Key) (api.World, error) {
		if m.regs[2] > m.Tasks[m.task].Prio {
			return api.World{}, api.ErrRight
		}
		return sched.Rank(m.World, k.Base, m.regs[2])
	})
}
