package deed

import (
	"slices"

	"keyhold/api"
	"keyhold/mmu"
	"keyhold/plain"
)

// Enter: a space tells a table, or, by the table that it tells there, a page.
func Enter(w *api.World, space, page, frame int, write bool) error {
	at := ofTable(space, page)
	if !plain.Is(w, frame, api.Table) {
		n, err := ofPage(w, space, page)
		if err != nil {
			return err
		}
		at = n
	}
	if w.Ram[at] != 0 {
		return api.ErrTwice
	}
	e, err := mmu.Entry(frame, write)
	if err != nil {
		return err
	}
	w.Ram[at] = e
	return nil
}

// Remove: a space's table tells a page no more; other pages and spaces that this table serves lose it, too.
func Remove(w *api.World, space, page int) error {
	at, err := ofPage(w, space, page)
	if err != nil {
		return err
	}
	if w.Ram[at] == 0 {
		return api.ErrMap
	}
	w.Ram[at] = 0
	Forget(w)
	return nil
}

// Forget: cores remember only what tables tell.
func Forget(w *api.World) {
	for core, tlb := range w.Tlbs {
		w.Tlbs[core] = slices.DeleteFunc(tlb, func(e api.Entry) bool { return !plain.Told(w, e) })
	}
}

// ofTable is the word in which a space tells the table of a page.
func ofTable(space, page int) int { return space*api.Words + page/api.Words }

// ofPage is the word in which that table tells the page.
func ofPage(w *api.World, space, page int) (int, error) {
	table, _, ok := mmu.Leads(w.Ram[ofTable(space, page)])
	if !ok {
		return 0, api.ErrMap
	}
	return table*api.Words + page%api.Words, nil
}
