package cores

import (
	"slices"

	"keyhold/kernel"
	"keyhold/plain"
)

// move does what a core does next where it is; true: the world went on.
func (m *Machine) move(core int) (bool, error) {
	c := &m.Cores[core]
	switch {
	case c.Stage == User:
		return m.leaveUser(core)
	case c.Stage == Exit:
		m.letGo(core)
	case c.Have < len(c.Locks):
		m.take(core)
	default:
		return m.leaveEntry(core)
	}
	return false, nil
}

// leaveUser: what wants no locks is done at once.
func (m *Machine) leaveUser(core int) (bool, error) {
	locks := wants(m.World, core)
	if len(locks) == 0 {
		return m.goOn(core)
	}
	m.Cores[core] = Core{Stage: Entry, Locks: locks}
	return false, nil
}

// leaveEntry: a core that has its locks asks once more what it wants: others may have changed that while it took them, and these locks would not be enough then.
func (m *Machine) leaveEntry(core int) (bool, error) {
	c := &m.Cores[core]
	c.Stage = Exit
	if !slices.Equal(wants(m.World, core), c.Locks) {
		return false, nil
	}
	return m.goOn(core)
}

// take: a core takes its next lock, unless another one has it. All take them rising, so that never two wait for each other.
func (m *Machine) take(core int) {
	c := &m.Cores[core]
	if lock := c.Locks[c.Have]; m.Holder[lock] == plain.None {
		m.Holder[lock] = core
		c.Have++
	}
}

// letGo: a core lets its last lock go.
func (m *Machine) letGo(core int) {
	c := &m.Cores[core]
	c.Have--
	m.Holder[c.Locks[c.Have]] = plain.None
	if c.Have == 0 {
		*c = Core{Stage: User}
	}
}

// goOn: the world goes on by a whole step of a core.
func (m *Machine) goOn(core int) (bool, error) {
	next, err := kernel.Step(m.World, core)
	if err != nil {
		return false, err
	}
	m.World = next
	return true, nil
}
