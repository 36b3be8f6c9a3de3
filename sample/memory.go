package sample

import "keyhold/api"

// mark stands behind lists, and in those that are spoiled.
const mark = 4711

// Roomy is the same world in other memory, with marks behind each list; and that world with these marks, in the same memory.
func Roomy(w api.World) (roomy, whole api.World) {
	roomy, whole = w, w
	roomy.Ram, whole.Ram = Room(w.Ram, mark)
	roomy.Kinds, whole.Kinds = Room(w.Kinds, mark)
	roomy.Slots, whole.Slots = Room(w.Slots, api.Slot{From: mark})
	roomy.Tasks, whole.Tasks = Room(w.Tasks, api.Running{Pc: mark})
	roomy.Bits, whole.Bits = Room(w.Bits, mark)
	roomy.Cores, whole.Cores = Room(w.Cores, mark)
	roomy.Doms, whole.Doms = Room(w.Doms, mark)
	roomy.Lines, whole.Lines = rooms(w.Lines, mark)
	roomy.Ready, whole.Ready = rooms(w.Ready, mark)
	roomy.Tlbs, whole.Tlbs = rooms(w.Tlbs, api.Entry{Page: mark})
	return roomy, whole
}

// Room is the same list in other memory, with marks behind it; and that list with these marks, in the same memory.
func Room[T any](l []T, behind T) (roomy, whole []T) {
	whole = append(append([]T{}, l...), behind, behind, behind, behind)
	return whole[:len(l)], whole
}

// rooms: the list of the lists has room, too; what stands behind it is seen by the whole one alone.
func rooms[T any](lists [][]T, behind T) (roomy, whole [][]T) {
	for _, l := range lists {
		short, long := Room(l, behind)
		roomy, whole = append(roomy, short), append(whole, long)
	}
	roomy, more := Room(roomy, []T{behind})
	return roomy, append(whole, more[len(lists):]...)
}

// Apart: do no two lists of a world share memory? (All of them are spoiled by this.)
func Apart(w api.World) bool {
	numbers := [][]int{w.Ram, w.Kinds, w.Bits, w.Cores, w.Doms}
	numbers = append(append(numbers, w.Lines...), w.Ready...)
	entries := append([][]api.Entry{}, w.Tlbs...)
	ok := apart(numbers, func(n int) int { return mark + n }, func(a, b int) bool { return a == b })
	ok = apart(entries, func(n int) api.Entry { return api.Entry{Page: mark + n} }, func(a, b api.Entry) bool { return a == b }) && ok
	ok = apart([][][]int{w.Lines, w.Ready}, func(n int) []int { return make([]int, n) }, func(a, b []int) bool { return len(a) == len(b) }) && ok
	fill(w.Slots, api.Slot{From: mark})
	fill(w.Tasks, api.Running{Pc: mark})
	fill(w.Tlbs, nil)
	return ok
}

func fill[T any](l []T, v T) {
	for i := range l {
		l[i] = v
	}
}

// apart fills each list with a mark of its own, and then looks whether all have theirs still.
func apart[T any](lists [][]T, of func(n int) T, same func(a, b T) bool) bool {
	for n, l := range lists {
		fill(l, of(n))
	}
	for n, l := range lists {
		for _, v := range l {
			if !same(v, of(n)) {
				return false
			}
		}
	}
	return true
}
