package world

import (
	"keyhold/api"
	"keyhold/mmu"
)

// Bits of an entry: whether it is one, whether the page may be written.
const (
	isEntry  = 0x8000
	mayWrite = 0x4000
)

// maxPage is the last page of a space.
const maxPage = api.Words*api.Words - 1

// badEntry: is a word of a Space or of a Table neither 0 nor an entry of such a one?
func (v *view) badEntry(n, e int) bool {
	switch v.Kinds[n/api.Words] {
	case api.Space:
		return e != 0 && !v.is(e-isEntry, api.Table)
	case api.Table:
		return e != 0 && !v.is(e-isEntry, api.Page) && !v.is(e-isEntry-mayWrite, api.Page)
	}
	return false
}

// badMemory: does a core remember too much, something twice, or something else than the tables tell?
func (v *view) badMemory(_ int, tlb []api.Entry) bool {
	if len(tlb) > api.MaxTlb {
		return true
	}
	for i, e := range tlb {
		if _, twice := mmu.Find(tlb[:i], e.Space, e.Page); twice || !v.isTold(e) {
			return true
		}
	}
	return false
}

// isTold: do the tables tell what is remembered?
func (v *view) isTold(e api.Entry) bool {
	if !v.is(e.Space, api.Space) || !within(e.Page, 0, maxPage) {
		return false
	}
	to, write, err := mmu.Walk(v.Ram, e.Space, e.Page*api.Words)
	return err == nil && to == e.Frame && write == e.Write
}
