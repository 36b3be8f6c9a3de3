package kernel

import (
	"keyhold/api"
	"keyhold/cpu"
	"keyhold/mail"
	"keyhold/mmu"
	"keyhold/plain"
	"keyhold/sched"
)

// machine: a world, in memory of its own, and who does something in it, on which core.
type machine struct {
	api.World
	core, task int
	regs       [8]int // what the task asks with: what is done may write over its registers
}

// work: who runs does an instruction, and what comes of it.
func (m *machine) work() error {
	r, event, n := cpu.Step(m.Tasks[m.task], m)
	m.Tasks[m.task] = r
	switch event {
	case cpu.Asked:
		m.ask(n)
	case cpu.Failed:
		return m.fail(n)
	case cpu.Ended:
		return m.become(sched.Stop(m.World, m.task))
	}
	return nil
}

// fail: its helper is told where a task failed; without one it is stopped.
func (m *machine) fail(at int) error {
	helper := m.Tasks[m.task].Helper
	if helper == plain.None {
		return m.become(sched.Stop(m.World, m.task))
	}
	return m.become(mail.Send(m.World, m.task, helper, 0, at&api.MaxWord, true))
}

// Load and Store: a machine is the bus of who runs in it.
func (m *machine) Load(at int) (int, bool) {
	n, ok := m.look(at, false)
	if !ok {
		return 0, false
	}
	return m.Ram[n], true
}

// Store likewise.
func (m *machine) Store(at, v int) bool {
	n, ok := m.look(at, true)
	if ok {
		m.Ram[n] = v
	}
	return ok
}

// look is the word in memory that an address of the task is; what the core remembers of that stays, whatever comes then.
func (m *machine) look(at int, write bool) (int, bool) {
	n, then, err := mmu.Look(m.Ram, m.Tlbs[m.core], m.Tasks[m.task].Space, at, write)
	if err != nil {
		return 0, false
	}
	m.Tlbs[m.core] = then
	return n, true
}

// become: the machine's world is what a layer made of it, unless that refused.
func (m *machine) become(w api.World, err error) error {
	if err == nil {
		m.World = w
	}
	return err
}
