package farm_test

import (
	"slices"
	"testing"

	"keyhold/api"
	"keyhold/farm"
	"keyhold/kernel"
	"keyhold/sample"
	"keyhold/world"
)

// one of several.
func one(d *sample.Die, of ...int) int { return of[d.N(len(of))] }

// lively is a sound world of one to four cores and many tasks, which count, write, and ask for something.
func lively(d *sample.Die) api.World {
	w := sample.Calm()
	many := 1 + d.N(4)
	w.Cores, w.Ready, w.Tlbs = slices.Repeat([]int{-1}, many), make([][]int, 4*many), make([][]api.Entry, many)
	w.Doms = []int{0, d.N(2), 1}
	w.Time = one(d, d.N(12), d.N(12), d.N(12), 999990+d.N(11))
	for n := range 7 {
		copy(w.Ram[16*sample.Page+2*n:], line(d))
	}
	copy(w.Ram[16*sample.Page+14:], []int{one(d, 0x0c00, 0x0c00, 0x0c00, 0x0000, 0x0f00), 0})
	for task := sample.Runs; task <= sample.Still; task++ {
		r := &w.Tasks[task]
		r.Node, r.Space, r.Helper = one(d, sample.Root, sample.Root, sample.Node), sample.Space, one(d, -1, sample.Door, sample.Desk)
		r.Pc, r.Core = 2*d.N(8), d.N(many)
		r.Regs = [8]int{0, one(d, 15, 32, 33, 34), one(d, 7, 44), d.N(9), d.N(4), 16 + d.N(16), d.N(99), d.N(65536)}
		switch d.N(8) {
		case 0:
			sample.Stand(&w, task, sample.Desk, api.Waiting)
		case 1:
			sample.Stand(&w, task, sample.Door, one(d, api.Sending, api.Calling))
		case 2:
			sample.Stand(&w, task, sample.Bell, api.Listening)
		default:
			sample.Queue(&w, task, r.Core, d.N(4), d.N(2))
		}
	}
	return w
}

// line is an instruction: it counts, writes into the second page, or asks for something.
func line(d *sample.Die) []int {
	switch d.N(6) {
	case 0:
		return []int{0x0360 + one(d, 3, 4, 5, 7), 0}
	case 1:
		return []int{one(d, 0x0b65, 0x0b75, 0x0b35), 0}
	case 2:
		return []int{one(d, 0x0110, 0x0120, 0x0130), one(d, 2, 3, 15, 32, 33, 34, 44, d.N(48))}
	}
	return []int{0x0e00, one(d, d.N(7), d.N(18), 18)}
}

// scripts for a world of up to four cores; some name cores that are not there, most don't.
func scripts(d *sample.Die) [][]int {
	var all [][]int
	for range one(d, 0, 1, 2, 3, 3+d.N(6), 3+d.N(6), 40) {
		var s []int
		for range one(d, 0, 1, d.N(30), d.N(30), d.N(30)) {
			s = append(s, one(d, 0, 0, 0, 0, 0, d.N(2), d.N(2), d.N(4), one(d, 0, 0, 0, 0, 0, 0, 0, 0, -1, 4)))
		}
		all = append(all, s)
	}
	return all
}

// retold is O1, told once more: step by step, one script behind the other; and each word is taken once for itself and all ahead of it in its list.
func retold(w api.World, scripts [][]int) []farm.End {
	var all []farm.End
	for _, script := range scripts {
		end, now := farm.End{}, w
		for _, core := range script {
			next, err := kernel.Step(now, core)
			if err != nil {
				end.Err = err.(api.Errno)
				break
			}
			now = next
		}
		if end.Err == api.OK {
			end.Time, end.Sum = now.Time, behind(now.Ram)
			for _, task := range now.Tasks {
				end.Sum += behind(task.Regs[:])
			}
		}
		all = append(all, end)
	}
	return all
}

// behind is the sum of the sums of all words from each one on.
func behind(words []int) int {
	all, sum := 0, 0
	for n := len(words) - 1; n >= 0; n-- {
		sum += words[n]
		all += sum
	}
	return all
}

// O1, and of the whole item 7: in many worlds, by many scripts: however many hands play, it is what the chapter tells.
func TestWild(t *testing.T) {
	d := sample.Die(15)
	wrong, right, sums, many := 0, 0, map[int]int{}, map[int]int{}
	for range 60 {
		w, l := lively(&d), scripts(&d)
		if err := world.Check(w); err != nil {
			t.Fatalf("this world to begin with is not sound: %v", err)
		}
		want := retold(w, l)
		for hands := 1; hands <= 8; hands++ {
			got, err := farm.Run(w, l, hands)
			if err != nil || !slices.Equal(got, want) {
				t.Fatalf("%d hands: scripts %v: %v, %v, want %v", hands, l, got, err, want)
			}
		}
		many[len(l)]++
		for _, end := range want {
			sums[end.Sum]++
			if end.Err == api.OK {
				right++
			} else {
				wrong++
			}
		}
	}
	if wrong < 50 || right < 150 || len(sums) < 100 || len(many) < 8 || many[0] == 0 || many[40] == 0 {
		t.Errorf("%d errors, %d ends, %d sums, so many times so many scripts: %v: these ask too little", wrong, right, len(sums), many)
	}
}
