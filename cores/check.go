package cores

import (
	"slices"

	"keyhold/api"
	"keyhold/plain"
	"keyhold/world"
)

// Check says whether a machine may be.
func Check(m Machine) error {
	w := &m.World
	if world.Check(*w) != nil || len(m.Cores) != len(w.Cores) || len(m.Holder) != len(w.Kinds) {
		return api.ErrState
	}
	holder := free(len(w.Kinds))
	for n, c := range m.Cores {
		if err := c.hold(n, holder); err != nil {
			return &api.Fault{At: n, Err: err}
		}
	}
	if !slices.Equal(m.Holder, holder) {
		return api.ErrState
	}
	return nil
}

// hold notes what a core has beside what those ahead have, unless it is not well.
func (c Core) hold(core int, holder []int) error {
	if !c.stageFits() {
		return api.ErrState
	}
	ahead := plain.None
	for n, lock := range c.Locks {
		if !plain.Within(lock, ahead+1, len(holder)-1) {
			return api.ErrState
		}
		ahead = lock
		if n >= c.Have {
			continue
		}
		if holder[lock] != plain.None {
			return api.ErrBusy
		}
		holder[lock] = core
	}
	return nil
}

// stageFits: may a core have so many of its locks where it is?
func (c Core) stageFits() bool {
	if !plain.Within(c.Have, 0, len(c.Locks)) {
		return false
	}
	switch c.Stage {
	case User:
		return len(c.Locks) == 0
	case Entry:
		return true
	case Exit:
		return c.Have > 0
	}
	return false
}
