package kernel_test

import (
	"fmt"
	"slices"
	"testing"

	"keyhold/api"
	"keyhold/sample"
)

// with: task runs has these registers, from register 1 on.
func with(regs ...int) change {
	return func(w *api.World) { copy(w.Tasks[runs].Regs[1:], regs) }
}

// asked: task runs asks for n, by a call and by an instruction: what comes differs by what is wanted, and by register 0.
func asked(t *testing.T, why string, n int, first change, want api.Errno, wanted change) {
	t.Helper()
	told := func(w *api.World) {
		if wanted(w); w.Kinds[runs] == api.Task {
			w.Tasks[runs].Regs[0] = int(want)
		}
	}
	begin := placed(first)
	done(t, fmt.Sprint(why, ": call ", n), begin, calling(0, n), told)
	done(t, fmt.Sprint(why, ": sys ", n), both(begin, func(w *api.World) {
		copy(w.Ram[16*page:], []int{0x0e00, n})
	}), steps(0), func(w *api.World) {
		if told(w); w.Kinds[runs] == api.Task {
			w.Tasks[runs].Pc = 2
		}
		later(w)
	})
}

// answered: it asks for n, and nothing is wrong.
func answered(t *testing.T, why string, n int, first, wanted change) {
	t.Helper()
	asked(t, why, n, first, api.OK, wanted)
}

// wrong: it asks for n, and is told an error, which changes nothing but register 0.
func wrong(t *testing.T, why string, n int, first change, want api.Errno) {
	t.Helper()
	asked(t, why, n, first, want, asItIs)
}

// free: task runs owes nobody an answer.
func free(w *api.World) {
	w.Tasks[runs].Owes, w.Tasks[asks].State = -1, api.Still
}

// handed: a task has a badge and a word in registers 1 and 2.
func handed(w *api.World, t, badge, word int) {
	w.Tasks[t].Regs[1], w.Tasks[t].Regs[2] = badge, word
}

// awake: a task stood first, and is alone in a list of Ready now.
func awake(w *api.World, t, at, list int) {
	w.Tasks[t].State, w.Tasks[t].At = api.Ready, -1
	w.Lines[at] = w.Lines[at][1:]
	w.Ready[list] = []int{t}
}

// stands: task runs is in a line's end.
func stands(w *api.World, at, state int) {
	w.Cores[0], w.Tasks[runs].State, w.Tasks[runs].At = -1, state, at
	w.Lines[at] = append(w.Lines[at], runs)
}

// K2, 0: off its core, to the end of its Ready; neither keys nor registers matter.
func TestYield(t *testing.T) {
	answered(t, "alone", 0, asItIs, func(w *api.World) { w.Cores[0], w.Ready[1] = -1, []int{runs} })
	answered(t, "behind others of its priority", 0, func(w *api.World) {
		sample.Queue(w, still, 0, 1, 0)
	}, func(w *api.World) { w.Cores[0], w.Ready[1] = -1, []int{still, runs} })
	answered(t, "beside others", 0, func(w *api.World) {
		sample.Queue(w, still, 0, 3, 1)
		w.Tasks[runs].Prio = 2
	}, func(w *api.World) { w.Cores[0], w.Ready[2] = -1, []int{runs} })
	answered(t, "without a node", 0, func(w *api.World) {
		w.Tasks[runs].Node = -1
		with(65535, 65535, 65535, 65535, 65535)(w)
	}, func(w *api.World) { w.Cores[0], w.Ready[1] = -1, []int{runs} })
}

// K2, 1: the key's badge, and register 2, go through the door.
func TestSend(t *testing.T) {
	for address, badge := range map[int]int{15: 0, 36: 5} {
		for _, word := range []int{0, 7, 65535} {
			answered(t, "nobody waits", 1, with(address, word), func(w *api.World) {
				stands(w, door, api.Sending)
				w.Tasks[runs].Word, w.Tasks[runs].Badge = word, badge
			})
		}
	}
	answered(t, "someone waits", 1, with(32, 65535), func(w *api.World) {
		awake(w, waits, desk, 0)
		handed(w, waits, 0, 65535)
	})
	answered(t, "someone waits, by a badge", 1, func(w *api.World) {
		w.Slots[31] = sample.Key(api.Door, desk, api.Write, 65535, 16)
		with(47, 9)(w)
	}, func(w *api.World) {
		awake(w, waits, desk, 0)
		handed(w, waits, 65535, 9)
	})
}

// K2, 2: likewise, as a call; who is called owes an answer. Without Grant there is none.
func TestCall(t *testing.T) {
	answered(t, "nobody waits", 2, with(15, 7), func(w *api.World) {
		stands(w, door, api.Calling)
		w.Tasks[runs].Word, w.Tasks[runs].Badge = 7, 0
	})
	answered(t, "nobody waits, by a badge", 2, func(w *api.World) {
		w.Slots[31] = sample.Key(api.Door, door, api.Write|api.Grant, 8, 15)
		with(47, 65535)(w)
	}, func(w *api.World) {
		stands(w, door, api.Calling)
		w.Tasks[runs].Word, w.Tasks[runs].Badge = 65535, 8
	})
	answered(t, "someone waits", 2, with(32, 7), func(w *api.World) {
		awake(w, waits, desk, 0)
		handed(w, waits, 0, 7)
		w.Tasks[waits].Owes = runs
		w.Cores[0], w.Tasks[runs].State = -1, api.Asking
	})
	wrong(t, "a key without Grant", 2, with(36, 7), api.ErrRight)
	wrong(t, "a key with nothing but Read", 2, with(37, 7), api.ErrRight)
	wrong(t, "a key with Grant alone", 2, func(w *api.World) {
		w.Slots[31] = sample.Key(api.Door, door, api.Grant, 0, 15)
		with(47)(w)
	}, api.ErrRight)
}

// K2, 3: what is sent is taken, or waited for; who owes an answer can't.
func TestTake(t *testing.T) {
	answered(t, "of one who sends", 3, both(free, with(37)), func(w *api.World) {
		handed(w, runs, 65535, 65535)
		awake(w, sends, door, 0)
		w.Tasks[sends].Word, w.Tasks[sends].Badge = 0, 0
	})
	answered(t, "of one who calls", 3, func(w *api.World) {
		free(w)
		w.Lines[door] = []int{calls}
		w.Tasks[sends].State, w.Tasks[sends].At = api.Still, -1
		w.Tasks[calls].Word, w.Tasks[calls].Badge = 8, 9
		with(15)(w)
	}, func(w *api.World) {
		handed(w, runs, 9, 8)
		w.Lines[door], w.Tasks[runs].Owes = nil, calls
		r := &w.Tasks[calls]
		r.State, r.At, r.Word, r.Badge = api.Asking, -1, 0, 0
	})
	answered(t, "where others wait", 3, both(free, with(32)), func(w *api.World) { stands(w, desk, api.Waiting) })
	wrong(t, "owing an answer", 3, with(15), api.ErrBusy)
	wrong(t, "owing an answer, where others wait", 3, with(32), api.ErrBusy)
}

// K2, 4: register 2 is the answer; no key is asked for.
func TestAnswer(t *testing.T) {
	for _, word := range []int{0, 97, 65535} {
		answered(t, "whom it owes", 4, with(65535, word), func(w *api.World) {
			w.Tasks[runs].Owes = -1
			w.Tasks[asks].State, w.Ready[0] = api.Ready, []int{asks}
			handed(w, asks, 0, word)
		})
	}
	answered(t, "without a node", 4, func(w *api.World) { w.Tasks[runs].Node = -1 }, func(w *api.World) {
		w.Tasks[runs].Owes = -1
		w.Tasks[asks].State, w.Ready[0] = api.Ready, []int{asks}
		handed(w, asks, 0, 97)
	})
	wrong(t, "nobody whom it owes", 4, free, api.ErrEmpty)
}

// K2, 5: the key's badge rings; without one 1 does.
func TestRing(t *testing.T) {
	for address, badge := range map[int]int{33: 1, 39: 65535} {
		answered(t, "someone listens", 5, with(address), func(w *api.World) {
			awake(w, listens, bell, 0)
			handed(w, listens, 0, badge)
		})
	}
	for badge, bits := range map[int]int{0: 13, 1: 13, 2: 14, 6: 14, 65535: 65535} {
		answered(t, fmt.Sprint("nobody listens, badge ", badge), 5, func(w *api.World) {
			w.Bits[rung] = 12
			w.Slots[31] = sample.Key(api.Bell, rung, api.Write, badge, 18)
			with(47)(w)
		}, func(w *api.World) { w.Bits[rung] = bits })
	}
}

// K2, 6: what was rung is heard, or listened for.
func TestListen(t *testing.T) {
	for _, bits := range []int{1, 6, 65535} {
		answered(t, "it was rung", 6, func(w *api.World) {
			w.Bits[rung] = bits
			with(34)(w)
		}, func(w *api.World) {
			handed(w, runs, 0, bits)
			w.Bits[rung] = 0
		})
	}
	answered(t, "it was not", 6, with(33), func(w *api.World) { stands(w, bell, api.Listening) })
	answered(t, "nobody else listens", 6, func(w *api.World) {
		w.Bits[rung] = 0
		with(34)(w)
	}, func(w *api.World) { stands(w, rung, api.Listening) })
}

// K2, 7: register 4 things of kind register 3 out of the clay at register 1, their keys from register 2 on.
func TestMake(t *testing.T) {
	for kind := api.Page; kind <= api.Bell; kind++ {
		answered(t, fmt.Sprint("two of kind ", kind), 7, func(w *api.World) {
			w.Ram[16*18], w.Ram[16*20-1] = 5, 6
			with(1, 40, kind, 2)(w)
		}, func(w *api.World) {
			for n := range 2 {
				w.Kinds[18+n], w.Slots[24+n] = kind, sample.Key(kind, 18+n, 7, 0, 1)
			}
			w.Slots[1].Key.Mark = 19
			w.Ram[16*18], w.Ram[16*20-1] = 0, 0
		})
	}
	answered(t, "all that is left", 7, with(1, 45, api.Door, 3), func(w *api.World) {
		for n := range 3 {
			w.Kinds[18+n], w.Slots[29+n] = api.Door, sample.Key(api.Door, 18+n, 7, 0, 1)
		}
		w.Slots[1].Key.Mark = 20
	})
	answered(t, "out of clay in another node", 7, with(35, 40, api.Page, 1), func(w *api.World) {
		w.Kinds[21], w.Slots[24] = api.Page, sample.Key(api.Page, 21, 7, 0, 19)
		w.Slots[19].Key.Mark = 1
	})
	wrong(t, "more than is left", 7, with(1, 40, api.Page, 4), api.ErrFull)
	wrong(t, "nothing", 7, with(1, 40, api.Page, 0), api.ErrRange)
	wrong(t, "more than the node has slots", 7, with(1, 46, api.Page, 3), api.ErrRange)
	wrong(t, "as much as can be said", 7, with(1, 40, api.Page, 65535), api.ErrRange)
	wrong(t, "clay", 7, with(1, 40, api.Clay, 1), api.ErrKind)
	wrong(t, "no kind", 7, with(1, 40, api.Bell+1, 1), api.ErrKind)
	wrong(t, "out of no clay", 7, with(5, 40, api.Page, 1), api.ErrKind)
	wrong(t, "out of nothing", 7, with(41, 40, api.Page, 1), api.ErrEmpty)
	wrong(t, "where something is", 7, with(1, 39, api.Page, 1), api.ErrTwice)
}

// K2, 8: the key at register 1, with rights of register 3 and the badge in register 4, is at register 2, too.
func TestCopy(t *testing.T) {
	for rights := range 8 {
		answered(t, fmt.Sprint("rights ", rights), 8, with(15, 40, rights, 9), func(w *api.World) {
			w.Slots[24] = sample.Key(api.Door, door, rights, 9, 15)
		})
		answered(t, fmt.Sprint("rights ", rights, " of those of a lesser key"), 8, with(36, 47, rights, 0), func(w *api.World) {
			w.Slots[31] = sample.Key(api.Door, door, rights&3, 5, 20)
		})
	}
	wrong(t, "no rights", 8, with(15, 40, 8, 0), api.ErrRange)
	wrong(t, "another badge than it has", 8, with(36, 40, 7, 6), api.ErrRight)
	wrong(t, "a badge of a page", 8, with(5, 40, 7, 6), api.ErrRight)
	wrong(t, "clay", 8, with(1, 40, 7, 0), api.ErrKind)
	wrong(t, "nothing", 8, with(41, 40, 7, 0), api.ErrEmpty)
	wrong(t, "where something is", 8, with(15, 39, 7, 0), api.ErrTwice)
	wrong(t, "onto itself", 8, with(15, 15, 7, 0), api.ErrTwice)
}

// K2, 9: the key at register 1 is at register 2 instead.
func TestMove(t *testing.T) {
	answered(t, "a key", 9, with(15, 40), func(w *api.World) {
		w.Slots[24], w.Slots[15] = w.Slots[15], api.Slot{From: -1}
		w.Slots[20].From = 24
	})
	answered(t, "clay", 9, with(35, 47), func(w *api.World) { w.Slots[31], w.Slots[19] = w.Slots[19], api.Slot{From: -1} })
	wrong(t, "nothing", 9, with(40, 41), api.ErrEmpty)
	wrong(t, "where something is", 9, with(15, 39), api.ErrTwice)
	wrong(t, "onto itself", 9, with(15, 15), api.ErrTwice)
}

// gone: the task is no more, nobody is on the core, and who asked it asks no longer.
func gone(w *api.World) {
	w.Kinds[runs], w.Slots[7] = api.None, api.Slot{From: -1}
	w.Tasks[runs] = api.Running{Node: -1, Space: -1, Helper: -1, At: -1, Owes: -1}
	w.Cores[0], w.Tasks[asks].State = -1, api.Still
}

// K2, 10: the key at register 1 is dropped; with the last one its thing is gone; a task that is gone by this is told nothing.
func TestDrop(t *testing.T) {
	answered(t, "one of several", 10, with(36), func(w *api.World) {
		w.Slots[20], w.Slots[21].From = api.Slot{From: -1}, 15
	})
	answered(t, "the last one", 10, with(16*2+2), func(w *api.World) {
		w.Slots[18], w.Kinds[rung], w.Bits[rung] = api.Slot{From: -1}, api.None, 0
	})
	answered(t, "that of who asks", 10, with(7), gone)
	answered(t, "that of who asks, with a helper", 10, func(w *api.World) {
		w.Tasks[runs].Helper = desk
		with(7)(w)
	}, gone)
	answered(t, "one of two to who asks", 10, func(w *api.World) {
		w.Slots[31] = sample.Key(api.Task, runs, 0, 0, 7)
		with(7)(w)
	}, func(w *api.World) { w.Slots[7], w.Slots[31].From = api.Slot{From: -1}, 1 })
	answered(t, "its own space", 10, with(3), func(w *api.World) {
		w.Slots[3], w.Kinds[space] = api.Slot{From: -1}, api.None
		for task := runs; task <= still; task++ {
			w.Tasks[task].Space = -1
		}
		w.Tlbs[0], w.Tlbs[1] = nil, nil
	})
	wrong(t, "nothing", 10, with(40), api.ErrEmpty)
}

// K2, 11: what was made from the key at register 1 is dropped.
func TestRevoke(t *testing.T) {
	answered(t, "those of a door", 11, with(15), func(w *api.World) { w.Slots[20], w.Slots[21] = api.Slot{From: -1}, api.Slot{From: -1} })
	answered(t, "none", 11, with(37), asItIs)
	answered(t, "one of two to who asks", 11, func(w *api.World) {
		w.Slots[31], w.Slots[7].From = sample.Key(api.Task, runs, 7, 0, 1), 31
		with(47)(w)
	}, func(w *api.World) { w.Slots[7] = api.Slot{From: -1} })
	answered(t, "all that was made out of clay, who asks, too", 11, with(1), func(w *api.World) {
		time, ram := w.Time, slices.Clone(w.Ram)
		*w = sample.Hollow(24, 2, 0, 1)
		w.Kinds[root], w.Slots[0], w.Slots[1] = api.Node, sample.Key(api.Node, root, 7, 0, -1), sample.Clay(1, 20, 17)
		w.Time, w.Ram = time, ram
		clear(w.Ram[16*space : 16*page])
	})
	wrong(t, "nothing", 11, with(40), api.ErrEmpty)
}

// K2, 15: the task at register 1, if it is Still, may run.
func TestStart(t *testing.T) {
	answered(t, "one who is still", 15, with(14), func(w *api.World) { w.Tasks[still].State, w.Ready[7] = api.Ready, []int{still} })
	for task := runs; task < still; task++ {
		wrong(t, fmt.Sprint("task ", task), 15, with(task+1), api.ErrBusy)
	}
}

// K2, 16: the task at register 1 is Still, whoever that is.
func TestStop(t *testing.T) {
	for task, more := range map[int]change{
		runs:    func(w *api.World) { w.Cores[0] = -1 },
		next:    func(w *api.World) { w.Ready[6] = nil },
		sends:   func(w *api.World) { w.Lines[door] = []int{calls} },
		waits:   func(w *api.World) { w.Lines[desk] = nil },
		asks:    func(w *api.World) { w.Tasks[runs].Owes = -1 },
		listens: func(w *api.World) { w.Lines[bell] = nil },
		still:   asItIs,
	} {
		answered(t, fmt.Sprint("task ", task), 16, with(task+1), both(more, func(w *api.World) {
			w.Tasks[task].State, w.Tasks[task].At = api.Still, -1
		}))
	}
}

// K2, 17: the task at register 1 has the priority in register 2, if that is not above the asker's own.
func TestRank(t *testing.T) {
	for own := range 4 {
		first := func(to, prio int) change {
			return func(w *api.World) {
				w.Tasks[runs].Prio = own
				with(to+1, prio)(w)
			}
		}
		for prio := range own + 1 {
			answered(t, fmt.Sprint("one who is still to ", prio, " by one of ", own), 17, first(still, prio), func(w *api.World) { w.Tasks[still].Prio = prio })
			answered(t, fmt.Sprint("one who is next to ", prio, " by one of ", own), 17, first(next, prio), func(w *api.World) {
				w.Ready[6] = nil
				w.Tasks[next].Prio, w.Ready[4+prio] = prio, []int{next}
			})
			answered(t, fmt.Sprint("itself to ", prio, " from ", own), 17, first(runs, prio), func(w *api.World) { w.Tasks[runs].Prio = prio })
		}
		for _, prio := range []int{own + 1, 4, 5, 65535} {
			wrong(t, fmt.Sprint("to ", prio, " by one of ", own), 17, first(still, prio), api.ErrRight)
		}
	}
}
