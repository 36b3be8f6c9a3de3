package world

import (
	"keyhold/api"
	"keyhold/mmu"
	"keyhold/plain"
)

// Bits of an entry: whether it is one, whether the page may be written.
const (
	isEntry  = 0x8000
	mayWrite = 0x4000
)

// badEntry: is a word of a Space or of a Table neither 0 nor an entry of such a one?
func (v *view) badEntry(n, e int) bool {
	switch v.Kinds[n/api.Words] {
	case api.Space:
		return e != 0 && !v.is(e-isEntry, api.Table)
	case api.Table:
		return e != 0 && !v.is(e-isEntry, api.Page) && !v.is(e-isEntry-mayWrite, api.Page)
	}
	return false
}

// badMemory: does a core remember too much, something twice, or something else than the tables tell?
func (v *view) badMemory(_ int, tlb []api.Entry) bool {
	if len(tlb) > api.MaxTlb {
		return true
	}
	for i, e := range tlb {
		if _, twice := mmu.Find(tlb[:i], e.Space, e.Page); twice || !plain.Told(&v.World, e) {
			return true
		}
	}
	return false
}
